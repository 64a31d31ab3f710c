from byhalves.books import plain
from byhalves.errors import BadBook, BadLine, BadPart
from byhalves.gaps import gap
from refusals import Refusals

LINKED = ((4, 10, 6), ((0, 1), (1, 2), (0, 1, 2)))


class GapTest(Refusals):
    def test_plain_books(self):
        self.same(gap(plain((4, 10)), (1, -1), 0), 3)
        self.same(gap(plain((4, 10)), (1, -1), 1), 9)
        self.same(gap(i=0, line=(-7,), book=plain((5,))), 28)
        for steps in (1, 2, 7, 60):
            for weight in (-20, -3, 0, 1, 20):
                with self.subTest(steps=steps, weight=weight):
                    self.same(gap(plain((3, steps)), (1, weight), 1), abs(weight) * (steps - 1))

    def test_linked_books(self):
        self.same(gap(((4, 10), ((0, 1), (0, 1))), (1, -1), 0), 1)
        self.same(gap(((4, 10), ((0, 1), (0, 1))), (1, -1), 1), 1)
        self.same(gap(((4, 10), ((0, 1), (1,))), (1, 1), 0), 1)
        self.same(gap(((4, 10), ((0, 1), (1,))), (1, 1), 1), 9)
        self.same(gap(LINKED, (3, 6, 2), 0), 9)
        self.same(gap(LINKED, (3, 6, -2), 1), 6)
        self.same(gap(LINKED, (3, -6, 2), 2), 10)

    def test_weights_of_0_among_the_linked(self):
        self.same(gap(LINKED, (1, 0, 1), 0), 3)
        self.same(gap(LINKED, (0, 1, 0), 1), 9)
        self.same(gap(LINKED, (0, 1, 1), 2), 1)
        self.same(gap(LINKED, (5, 0, 2), 2), 2)

    def test_a_weight_of_0_has_no_gap(self):
        self.same(gap(LINKED, (0, 1, 1), 0), 0)
        self.same(gap(LINKED, (1, 0, 1), 1), 0)
        self.same(gap(LINKED, (1, 1, 0), 2), 0)
        self.same(gap(plain((4, 10)), (1, 0), 1), 0)

    def test_a_gap_that_is_not_above_0(self):
        self.same(gap(plain((1,)), (20,), 0), 0)
        self.same(gap(((1, 1), ((0, 1), (1,))), (5, 3), 0), 0)
        self.same(gap(((3, 2), ((0, 1), (1,))), (5, -2), 0), 0)
        self.same(gap(((3, 2), ((0, 1), (1,))), (1, -1), 0), 0)

    def test_what_is_no_part(self):
        for i in (-1, 2, True, False, None, "0", (0,), 10 ** 900):
            with self.subTest(i):
                self.refused(BadPart, i, gap, plain((4, 10)), (1, -1), i)

    def test_errors_in_their_order(self):
        self.refused(BadBook, -1, gap, None, None, -1)
        self.refused(BadBook, (1, 1), gap, ((4, 4), ((0,), (0,))), (0, 0), -1)
        self.refused(BadLine, -1, gap, plain((4, 10)), (1,), -1)
        self.refused(BadLine, 1, gap, plain((4, 10)), (1, 21), -1)
        self.refused(BadLine, 0, gap, plain((4, 10)), (0, 0), 5)
