from byhalves.books import plain
from byhalves.errors import BadBook, BadTable
from byhalves.runs import run
from byhalves.tables import made_table, table_player
from refusals import Refusals

BOOK = plain((4, 4))
STAY = ((), 0)
ROW = (STAY, STAY, STAY, STAY)
EXAMPLE = (
    (((), 0), ((), 0), (((1, 1),), 1), ((), 0)),
    (((), 1), ((), 1), ((), 1), (((1, -1),), 0)),
)
RIGHT = (
    (ROW,),
    (ROW,) * 40,
    EXAMPLE,
    (((((0, 9), (1, -9)), 1), STAY, STAY, ((), 1)), ROW),
    ((STAY, (((1, 5),), 0), (((0, -1),), 0), STAY),),
)
BOTH = (made_table, table_player)


class MadeTableTest(Refusals):
    def test_right_tables_are_told_as_they_are(self):
        for table in RIGHT:
            with self.subTest(table):
                self.same(made_table(BOOK, table), table)
                self.same(made_table(thing=table, book=BOOK), table)

    def test_as_many_entries_as_the_book_has_moves(self):
        self.same(made_table(plain((4,)), ((STAY, STAY),)), ((STAY, STAY),))
        self.same(made_table(plain((4,) * 6), ((STAY,) * 12,)), ((STAY,) * 12,))
        self.refused(BadTable, (0, -1), made_table, plain((4,) * 3), (ROW,))

    def test_what_is_no_tuple_of_1_to_40(self):
        for thing in (None, 0, True, "ab", (), (ROW,) * 41, (None,) * 41):
            for function in BOTH:
                with self.subTest(thing, function=function):
                    self.refused(BadTable, -1, function, BOOK, thing)

    def test_rows_that_are_none(self):
        for row in (None, 0, "abcd", (), (STAY,) * 3, (STAY,) * 5, STAY):
            for function in BOTH:
                with self.subTest(row, function=function):
                    self.refused(BadTable, (0, -1), function, BOOK, (row, ROW))
                    self.refused(BadTable, (1, -1), function, BOOK, (ROW, row, None))

    def test_entries_that_are_none(self):
        for entry in (
            None, 0, "ab", (), ((),), ((), 0, 0), ((), ()),
            (None, 0), (0, 0), ("", 0), ((1, 1), 0), ((None,), 0), (((1,),), 0), (((1, 1, 1),), 0),
            (((1, 1), (0, 1)), 0), (((1, 1), (1, 1)), 0), (((0, 1), (0, -1)), 0),
            (((1, 0),), 0), (((1, 10),), 0), (((1, -10),), 0), (((0, 1), (1, 10)), 0),
            (((1, True),), 0), (((1, "1"),), 0), (((1, None),), 0),
            (((2, 1),), 0), (((-1, 1),), 0), (((True, 1),), 0), (((False, 1),), 0), ((("0", 1),), 0),
            ((), 2), ((), -1), ((), True), ((), False), ((), "0"), ((), None),
        ):
            for function in BOTH:
                with self.subTest(entry, function=function):
                    self.refused(BadTable, (0, 0), function, BOOK, ((entry, STAY, STAY, STAY), ROW))
                    self.refused(BadTable, (1, 3), function, BOOK, (ROW, (STAY, STAY, STAY, entry)))
                    self.refused(BadTable, (0, 1), function, BOOK, ((STAY, entry, None, STAY), ROW))

    def test_the_first_row_decides(self):
        bad = (STAY, STAY, None, STAY)
        self.refused(BadTable, (0, 2), made_table, BOOK, (bad, None))
        self.refused(BadTable, (0, -1), made_table, BOOK, (None, bad))
        self.refused(BadTable, (1, 2), made_table, BOOK, (ROW, bad, None, bad))

    def test_the_book_is_asked_ahead(self):
        for function in BOTH:
            self.refused(BadBook, -1, function, None, None)
            self.refused(BadBook, (0, 1), function, ((4, 61), ((0,), (1,))), ())


class TablePlayerTest(Refusals):
    def test_the_example(self):
        player = table_player(book=BOOK, table=EXAMPLE)
        for move, changes in (
            ((0, 1), ()), ((0, -1), ()), ((1, -1), ()), ((1, 1), ((1, 1),)),
            ((1, 1), ()), ((0, 1), ()), ((0, -1), ()), ((1, -1), ((1, -1),)),
            ((1, -1), ()), ((1, 1), ((1, 1),)),
        ):
            self.same(player.moved(*move), changes)

    def test_each_entry_stands_in_its_place(self):
        row = tuple((((part, by),), 0) for part, by in ((0, 1), (0, -1), (1, 1), (1, -1)))
        player = table_player(BOOK, (row,))
        for part in (0, 1):
            for way in (1, -1):
                self.same(player.moved(part=part, way=way), ((part, way),))

    def test_a_copy_goes_on_alike_and_apart(self):
        player = table_player(BOOK, EXAMPLE)
        player.moved(1, 1)
        copied = player.copy()
        self.same(copied.moved(1, -1), ((1, -1),))
        self.same(copied.moved(1, 1), ((1, 1),))
        self.same(copied.moved(1, -1), ((1, -1),))
        self.same(player.moved(1, 1), ())
        self.same(player.moved(1, -1), ((1, -1),))
        self.same(copied.moved(1, 1), ((1, 1),))
        self.same(player.copy().moved(1, 1), ((1, 1),))

    def test_a_table_may_break_the_links(self):
        table = ((STAY, (((0, 1), (1, 9)), 0), STAY, STAY),)
        self.same(table_player(BOOK, table).moved(0, -1), ((0, 1), (1, 9)))

    def test_run_leaves_it_at_its_row(self):
        player = table_player(BOOK, EXAMPLE)
        self.same(run(BOOK, player, ((1, 1), (1, 1))), ((0, 2), (0, 1)))
        self.same(player.moved(1, 1), ((1, 1),))
