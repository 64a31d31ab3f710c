from byhalves.books import plain
from byhalves.errors import BadBook, BadHistory
from byhalves.moves import made_history
from refusals import Refusals

BOOK = plain((4, 4))


class MadeHistoryTest(Refusals):
    def test_right_histories_are_told_as_they_are(self):
        for history in ((), ((0, 1),), ((0, -1), (1, 1), (1, -1)), ((1, 1),) * 6000):
            with self.subTest(many=len(history)):
                self.same(made_history(BOOK, history), history)
                self.same(made_history(thing=history, book=BOOK), history)

    def test_what_is_no_tuple(self):
        for thing in (None, 0, "", "ab", True):
            with self.subTest(thing):
                self.refused(BadHistory, -1, made_history, BOOK, thing)

    def test_what_is_no_move(self):
        for move in (
            None, 0, "01", (), (0,), (0, 1, 1), ((0, 1),),
            (2, 1), (-1, 1), (True, 1), (False, 1), ("0", 1), (None, 1), ((), 1),
            (0, 0), (0, 2), (0, -2), (0, True), (0, "1"), (0, None), (0, (1,)), (10 ** 900, 1), (0, 10 ** 900),
        ):
            with self.subTest(move):
                self.refused(BadHistory, 0, made_history, BOOK, (move,))
                self.refused(BadHistory, 2, made_history, BOOK, ((0, 1), (1, -1), move, (0, 1)))

    def test_a_move_stands_for_no_history(self):
        self.refused(BadHistory, 0, made_history, BOOK, (0, 1))

    def test_the_first_wrong_move_decides(self):
        self.refused(BadHistory, 1, made_history, BOOK, ((0, 1), (5, 1), None))

    def test_the_parts_are_those_of_the_book(self):
        self.same(made_history(plain((1,) * 6), ((5, 1),)), ((5, 1),))
        self.refused(BadHistory, 0, made_history, plain((1,)), ((1, 1),))

    def test_the_book_is_asked_ahead(self):
        self.refused(BadBook, -1, made_history, None, None)
        self.refused(BadBook, (0, 0), made_history, ((0,), ((0,),)), ((9, 9),))
