import itertools
import random

from byhalves.books import plain, total
from byhalves.errors import BadBook, BadLine
from byhalves.gaps import gap
from byhalves.packings import off, packing, reach
from refusals import Refusals

ALL = (packing, reach, off)


def packing_by_trying(book, line):
    """The packing, by trying all lots of parts."""
    links = book[1]
    gaps = [gap(book, line, i) for i in range(len(line))]
    worths = {}
    for many in range(len(line) + 1):
        for lot in itertools.combinations(range(len(line)), many):
            linked = [j for i in lot for j in links[i]]
            if len(linked) == len(set(linked)) and all(gaps[i] > 0 for i in lot):
                worths[lot] = sum(gaps[i] for i in lot)
    most = max(worths.values())
    return min(lot for lot, worth in worths.items() if worth == most), most


def some_book(chance):
    many = chance.randint(1, 6)
    steps = tuple(chance.choice((1, 2, 3, 4, 6, 12, 60)) for _ in range(many))
    links = []
    for i in range(many):
        also = [j for j in range(many) if chance.random() < 0.25]
        links.append(tuple(sorted({i, *also})))
    line = tuple(chance.choice((-20, -2, -1, 0, 1, 1, 1, 3)) for _ in range(many))
    return (steps, tuple(links)), line if any(line) else (1,) * many


class PackingTest(Refusals):
    def told(self, book, line, parts, sum_of_gaps, half):
        self.same(packing(book, line), (parts, sum_of_gaps))
        self.same(reach(book, line), sum_of_gaps)
        self.same(off(book, line), half)

    def test_the_examples(self):
        pair = plain((2, 2))
        self.told(pair, total(pair), (0, 1), 2, 1)
        self.told(plain((4, 10)), (1, -1), (0, 1), 12, 6)
        self.told(((4, 10), ((0, 1), (0, 1))), (1, -1), (0,), 1, 1)
        self.told(plain((1, 1)), (1, 1), (), 0, 0)

    def test_arguments_by_name(self):
        self.same(packing(line=(1, -1), book=plain((4, 10))), ((0, 1), 12))
        self.same(reach(line=(1, -1), book=plain((4, 10))), 12)
        self.same(off(line=(1, -1), book=plain((4, 10))), 6)

    def test_a_reach_that_is_odd(self):
        self.told(plain((4,)), (1,), (0,), 3, 2)
        self.told(plain((4, 5)), (1, 1), (0, 1), 7, 4)

    def test_of_several_the_least(self):
        linked = ((4, 4, 4), ((0, 1), (1, 2), (0, 2)))
        self.told(linked, (1, 1, 1), (0,), 3, 2)
        # (0, 1) and (0, 2) and (1, 3) and (2, 3) each have the sum 6.
        ring = ((4, 4, 4, 4), ((0, 3), (1, 2), (1, 2), (0, 3)))
        self.told(ring, (1, 1, 1, 1), (0, 1), 6, 3)
        # (0, 2) and (1,) both have the sum 6; then (0,) and (1, 2).
        self.told(((4, 7, 4, 1, 1), ((0, 3), (1, 3, 4), (2, 4), (3,), (4,))), (1, 1, 1, 0, 0), (0, 2), 6, 3)
        self.told(((7, 4, 4, 1, 1), ((0, 3, 4), (1, 3), (2, 4), (3,), (4,))), (1, 1, 1, 0, 0), (0,), 6, 3)

    def test_a_greater_sum_ahead_of_a_lesser_tuple(self):
        self.told(((2, 8), ((0,), (0, 1))), (4, 1), (1,), 7, 4)
        self.told(((4, 4, 4), ((0, 1, 2), (1,), (2,))), (1, 1, 1), (1, 2), 6, 3)

    def test_no_part_of_gap_0_is_in_it(self):
        self.told(plain((1, 4, 9)), (1, 1, 0), (1,), 3, 2)
        self.told(plain((9, 1)), (0, 5), (), 0, 0)
        self.told(((3, 2, 5), ((0, 1), (1,), (2,))), (1, -1, 1), (1, 2), 5, 3)

    def test_apart_is_told_by_all_links(self):
        # Neither part is linked to the other, but both are to part 2.
        self.told(((4, 4, 4), ((0, 2), (1, 2), (2,))), (1, 1, 0), (0,), 3, 2)
        self.told(((4, 4, 4), ((0, 2), (1,), (2,))), (1, 1, 1), (0, 1), 6, 3)

    def test_books_by_chance(self):
        chance = random.Random(12)
        for _ in range(400):
            book, line = some_book(chance)
            with self.subTest(book, line=line):
                parts, most = packing_by_trying(book, line)
                self.told(book, line, parts, most, most // 2 + most % 2)

    def test_errors_in_their_order(self):
        for function in ALL:
            with self.subTest(function):
                self.refused(BadBook, -1, function, None, None)
                self.refused(BadBook, (0, 1), function, ((4, 0), ((0,), (1,))), (0, 0))
                self.refused(BadLine, -1, function, plain((4, 10)), (1,))
                self.refused(BadLine, 1, function, plain((4, 10)), (1, True))
                self.refused(BadLine, 0, function, plain((4, 10)), (0, 0))
