import unittest

from byhalves.books import is_book, made_book, made_line, plain, total
from byhalves.errors import BadBook, BadLine
from refusals import Refusals

RIGHT = (
    ((1,), ((0,),)),
    ((60,), ((0,),)),
    ((4, 4), ((0,), (1,))),
    ((4, 4), ((0, 1), (0, 1))),
    ((4, 6, 4), ((0, 1, 2), (1,), (0, 2))),
    ((1, 60, 2, 59, 3, 30), ((0, 1, 2, 3, 4, 5), (1,), (0, 2, 5), (3, 4), (4,), (0, 5))),
    ((5,) * 6, ((0,), (1,), (2,), (3,), (4,), (5,))),
)

DEEP = ()
for _ in range(48):
    DEEP = (DEEP,)

WRONG = (
    # No pair of tuples alike long, of 1 to 6 entries.
    (-1, None),
    (-1, True),
    (-1, 7),
    (-1, "ab"),
    (-1, ()),
    (-1, ((4, 4),)),
    (-1, ((4,), ((0,),), ())),
    (-1, (4, ((0,),))),
    (-1, ((4,), 0)),
    (-1, ("4", ((0,),))),
    (-1, ((4,), "0")),
    (-1, (None, None)),
    (-1, ((4, 4), ((0,),))),
    (-1, ((4,), ((0,), (1,)))),
    (-1, ((), ())),
    (-1, ((4,) * 7, tuple((i,) for i in range(7)))),
    (-1, ((0,) * 7, tuple((i,) for i in range(7)))),
    (-1, DEEP),
    # Steps.
    ((0, 0), ((0,), ((0,),))),
    ((0, 0), ((61,), ((0,),))),
    ((0, 0), ((-4,), ((0,),))),
    ((0, 0), ((True,), ((0,),))),
    ((0, 0), (("4",), ((0,),))),
    ((0, 0), ((None,), ((0,),))),
    ((0, 0), (((4,),), ((0,),))),
    ((0, 0), ((10 ** 900,), ((0,),))),
    ((0, 1), ((4, 0), ((0,), (1,)))),
    ((0, 1), ((4, 61, False), ((0,), (1,), (2,)))),
    ((0, 5), ((1, 2, 3, 4, 5, 61), tuple((i,) for i in range(6)))),
    # Steps ahead of links.
    ((0, 1), ((4, 0), (None, (1,)))),
    # Links.
    ((1, 0), ((4,), (0,))),
    ((1, 0), ((4,), (None,))),
    ((1, 0), ((4,), ("0",))),
    ((1, 0), ((4,), ((),))),
    ((1, 0), ((4,), ((False,),))),
    ((1, 0), ((4,), ((-1, 0),))),
    ((1, 0), ((4,), ((0, 1),))),
    ((1, 0), ((4,), ((0, "1"),))),
    ((1, 0), ((4,), (((0,),),))),
    ((1, 0), ((4, 4), ((1,), (1,)))),
    ((1, 0), ((4, 4), ((1, 0), (1,)))),
    ((1, 0), ((4, 4), ((0, 0), (1,)))),
    ((1, 0), ((4, 4), ((0, True), (1,)))),
    ((1, 0), ((4, 4), ((0, 2), (5,)))),
    ((1, 1), ((4, 4), ((0,), (True,)))),
    ((1, 1), ((4, 4), ((0,), (0,)))),
    ((1, 1), ((4, 4), ((0, 1), ()))),
    ((1, 2), ((4, 4, 4), ((0,), (1,), (0, 1, 3)))),
    ((1, 2), ((4, 4, 4), ((0,), (1,), (2, 0)))),
    ((1, 2), ((4, 4, 4), ((0,), (1,), (0, 2, 2)))),
)


class MadeBookTest(Refusals):
    def test_right_books_are_told_as_they_are(self):
        for book in RIGHT:
            with self.subTest(book):
                self.same(made_book(book), book)
                self.same(made_book(thing=book), book)

    def test_wrong_books_are_refused(self):
        for what, thing in WRONG:
            with self.subTest(thing):
                self.refused(BadBook, what, made_book, thing)

    def test_is_book_says_the_same(self):
        for book in RIGHT:
            with self.subTest(book):
                self.assertIs(is_book(book), True)
                self.assertIs(is_book(thing=book), True)
        for what, thing in WRONG:
            with self.subTest(thing):
                self.assertIs(is_book(thing), False)

    def test_a_book_of_very_many_wrong_entries(self):
        self.refused(BadBook, -1, made_book, ((1,) * 5000, (2,) * 4000))
        self.refused(BadBook, (1, 0), made_book, ((1,), (tuple(range(9000)),)))


class PlainTest(Refusals):
    def test_each_part_is_linked_to_itself_alone(self):
        self.same(plain((7,)), ((7,), ((0,),)))
        self.same(plain((4, 10)), ((4, 10), ((0,), (1,))))
        self.same(plain(steps=(1, 2, 3, 4, 5, 60)), ((1, 2, 3, 4, 5, 60), ((0,), (1,), (2,), (3,), (4,), (5,))))

    def test_what_is_no_tuple_or_of_a_wrong_length(self):
        for steps in (None, 4, "44", True, (), (4,) * 7):
            with self.subTest(steps):
                self.refused(BadBook, -1, plain, steps)

    def test_wrong_steps(self):
        for what, steps in (((0, 0), (0, 61)), ((0, 1), (4, 61)), ((0, 2), (4, 4, True)), ((0, 0), ("4",))):
            with self.subTest(steps):
                self.refused(BadBook, what, plain, steps)


BOOK = ((4, 10, 3), ((0, 1), (1,), (2,)))


class MadeLineTest(Refusals):
    def test_right_lines_are_told_as_they_are(self):
        for line in ((1, 1, 1), (-20, 20, 0), (0, 0, -1), (0, 20, 0), (3, 0, 0)):
            with self.subTest(line):
                self.same(made_line(BOOK, line), line)
                self.same(made_line(thing=line, book=BOOK), line)

    def test_what_is_no_tuple_of_as_many(self):
        for thing in (None, 1, "111", True, (), (1, 1), (1, 1, 1, 1), ("x", 1)):
            with self.subTest(thing):
                self.refused(BadLine, -1, made_line, BOOK, thing)

    def test_the_first_wrong_weight_decides(self):
        for what, thing in (
            (0, (-21, 1, 1)),
            (0, (21, -21, 1)),
            (1, (1, True, 1)),
            (1, (0, False, 0)),
            (1, (1, "1", None)),
            (2, (1, 1, None)),
            (2, (0, 0, 21)),
            (2, (0, 0, (1,))),
            (2, (1, 1, 10 ** 900)),
        ):
            with self.subTest(thing):
                self.refused(BadLine, what, made_line, BOOK, thing)

    def test_noughts_alone_are_no_line(self):
        self.refused(BadLine, 0, made_line, BOOK, (0, 0, 0))
        self.refused(BadLine, 0, made_line, plain((5,)), (0,))

    def test_the_book_is_asked_ahead(self):
        self.refused(BadBook, -1, made_line, None, None)
        self.refused(BadBook, (0, 1), made_line, ((4, 0), ((0,), (1,))), (0, 0))
        self.refused(BadBook, (1, 0), made_line, ((4,), ((),)), (1,))


class TotalTest(Refusals):
    def test_all_weights_are_1(self):
        self.same(total(BOOK), (1, 1, 1))
        self.same(total(book=plain((7,))), (1,))
        self.same(total(plain((7,) * 6)), (1,) * 6)

    def test_the_book_is_asked(self):
        self.refused(BadBook, -1, total, ())
        self.refused(BadBook, (1, 1), total, ((4, 4), ((0,), (0,))))


if __name__ == "__main__":
    unittest.main()
