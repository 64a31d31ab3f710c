import itertools
import random
import time

from byhalves.books import plain, total
from byhalves.closing import can_keep, least_off, safe
from byhalves.errors import BadBook, BadBound, BadLine, TooLarge
from byhalves.packings import off
from refusals import Refusals
from striking import leads_into, struck_out
from values import some_book, some_line

ONE = plain((2,))
ALL = (safe, can_keep, lambda book, line, bound, off: least_off(book, line, bound))


def some_question(chance):
    """A book, a line and a bound that are small."""
    book = some_book(chance, 3, steps=(1, 2, 3, 4, 5), linked=chance.choice((0, 0.4, 0.8)))
    bound = chance.choice(((0, 1, 3, 5, 7), (0, 1, 2, 3), (0, 1, 2))[len(book[0]) - 1])
    return book, some_line(chance, book, (-3, -2, -1, 0, 1, 1, 2)), bound


def many_within(line, bound, far):
    """How many tuples there are to begin with."""
    box = itertools.product(range(-bound, bound + 1), repeat=len(line))
    return sum(abs(sum(weight * stray for weight, stray in zip(line, strays))) <= far for strays in box)


class SafeTest(Refusals):
    def test_the_examples(self):
        self.same(safe(ONE, (1,), 1, 1), ((-1,), (0,), (1,)))
        self.same(safe(ONE, (1,), 1, 0), ())
        self.same(safe(off=1, bound=1, line=(1,), book=ONE), ((-1,), (0,), (1,)))

    def test_one_part(self):
        # As many strays as there are steps have to stand side by side.
        for steps in range(1, 9):
            for bound in range(0, 6):
                for far in range(0, 14):
                    most = min(bound, far // 2)
                    rising = tuple((stray,) for stray in range(-most, most + 1))
                    self.same(safe(plain((steps,)), (2,), bound, far), rising if len(rising) >= steps else ())

    def test_without_noughts(self):
        # The weights do not let both be 0 and go on, but far from there the lot is closed.
        found = 0
        chance = random.Random(261)
        for _ in range(300):
            book, line, bound = some_question(chance)
            for far in range(0, 8):
                lot = safe(book, line, bound, far)
                if lot and (0,) * len(book[0]) not in lot:
                    found += 1
                    self.same(lot, struck_out(book, line, bound, far))
        self.assertGreater(found, 0)

    def test_against_striking_out(self):
        chance = random.Random(26)
        found = {"empty": 0, "whole": 0, "struck": 0}
        for index in range(1500):
            book, line, bound = some_question(chance)
            far = chance.choice((0, 1, 2, 3, 4, 6, 9))
            lot = safe(book, line, bound, far)
            kind = "empty" if not lot else "whole" if len(lot) == many_within(line, bound, far) else "struck"
            found[kind] += 1
            if kind == "struck" or index % 10 == 0:
                with self.subTest(book, line=line, bound=bound, off=far):
                    self.same(lot, struck_out(book, line, bound, far))
        self.assertGreater(min(found.values()), 30)

    def test_the_lot_is_rising_and_closed(self):
        for book, line, bound, far in (
            (plain((4, 4)), (1, 1), 4, 3), (((4, 3), ((0, 1), (1,))), (1, 1), 4, 3),
            (((3, 3, 3), ((0, 1), (1, 2), (0, 2))), (1, 1, 1), 2, 2), (plain((2, 3)), (2, -3), 2, 5),
        ):
            with self.subTest(book):
                lot = safe(book, line, bound, far)
                self.assertNotEqual(lot, ())
                self.assertEqual(list(lot), sorted(set(lot)))
                for strays in lot:
                    self.assertLessEqual(max(map(abs, strays)), bound)
                    self.assertLessEqual(abs(sum(w * s for w, s in zip(line, strays))), far)
                    for part, way in itertools.product(range(len(strays)), (1, -1)):
                        self.assertTrue(leads_into(book, strays, part, way, lot))

    def test_steps_beyond_what_the_bound_lets(self):
        self.same(safe(plain((60,)), (1,), 29, 2000000), ())
        self.assertEqual(len(safe(plain((60,)), (1,), 30, 2000000)), 61)
        self.same(safe(plain((60,)), (1,), 30, 29), ())
        self.same(safe(plain((3,)), (1,), 0, 0), ())
        self.same(safe(plain((1,)), (1,), 0, 0), ((0,),))
        self.same(safe(plain((2,)), (1,), 0, 0), ())

    def test_links_go_from_the_part_that_moved(self):
        book = ((4, 1), ((0, 1), (1,)))
        for linked, line in ((book, (1, 1)), (((1, 4), ((0,), (0, 1))), (1, 1))):
            for far in (0, 1, 2):
                self.same(safe(linked, line, 3, far), struck_out(linked, line, 3, far))


class CanKeepTest(Refusals):
    def test_the_examples(self):
        self.assertIs(can_keep(ONE, (1,), 1, 1), True)
        self.assertIs(can_keep(ONE, (1,), 1, 0), False)
        self.assertIs(can_keep(off=1, bound=1, line=(1,), book=ONE), True)

    def test_just_where_noughts_are_in_the_lot(self):
        chance = random.Random(27)
        told = []
        for _ in range(300):
            book, line, bound = some_question(chance)
            far = chance.choice((0, 1, 2, 3, 4, 6, 9))
            told.append(can_keep(book, line, bound, far))
            self.assertIs(told[-1], (0,) * len(book[0]) in safe(book, line, bound, far))
        self.assertEqual(set(told), {True, False})


class LeastOffTest(Refusals):
    def test_the_examples(self):
        self.assertIsNone(least_off(ONE, (1,), 0))
        self.same(least_off(ONE, (1,), 1), 1)
        self.same(least_off(bound=1, line=(1,), book=ONE), 1)

    def test_can_keep_from_it_on_and_not_below(self):
        chance = random.Random(29)
        none = 0
        for _ in range(150):
            book, line, bound = some_question(chance)
            most = bound * sum(map(abs, line))
            least = least_off(book, line, bound)
            kept = [far for far in range(most + 2) if can_keep(book, line, bound, far)]
            with self.subTest(book, line=line, bound=bound):
                if least is None:
                    none += 1
                    self.assertEqual(kept, [])
                else:
                    self.assertEqual(kept, list(range(least, most + 2)))
                    self.assertGreaterEqual(least, off(book, line))
        self.assertGreater(none, 20)

    def test_just_off_for_the_total_of_a_plain_book(self):
        for steps in ((2,), (9,), (2, 2), (3, 4), (5, 5), (8, 2), (1, 1), (2, 3, 4), (3, 3, 3), (5, 4, 1), (2, 2, 2, 2)):
            book = plain(steps)
            half = max(many // 2 for many in steps)
            for bound in range(half, min(half + 4, 6) + 1):
                if (2 * bound + 1) ** len(steps) <= 20000:
                    with self.subTest(steps, bound=bound):
                        self.same(least_off(book, total(book), bound), off(book, total(book)))
            if half > 0:
                self.assertIsNone(least_off(book, total(book), half - 1))

    def test_nought(self):
        self.same(least_off(plain((1, 1)), (3, -2), 0), 0)
        self.same(least_off(plain((1, 4)), (5, 0), 2), 0)
        self.assertIsNone(least_off(plain((1, 4)), (5, 0), 1))

    def test_the_greatest(self):
        self.same(least_off(plain((60,)), (20,), 30), 600)
        self.same(least_off(plain((21,)), (-20,), 10), 200)


class QuickTest(Refusals):
    def test_what_has_to_be_told_quickly(self):
        for many, bound in ((1, 999), (2, 21), (3, 5), (4, 2), (5, 1), (6, 1)):
            self.assertLessEqual((2 * bound + 1) ** many, 2000)
            for links in (
                tuple((i,) for i in range(many)),
                tuple(tuple(sorted({i, (i + 1) % many})) for i in range(many)),
                tuple(tuple(sorted({i, 0})) for i in range(many)),
            ):
                for steps in (1, 2, 3, min(60, 2 * bound + 1)):
                    book = ((steps,) * many, links)
                    for line in (total(book), tuple(range(1, many + 1)), (7, -11, 13, -17, 19, -20)[:many]):
                        began = time.perf_counter()
                        least = least_off(book, line, bound)
                        safe(book, line, bound, least or 0)
                        can_keep(book, line, bound, (least or 1) - 1 if least != 0 else 0)
                        self.assertLess(time.perf_counter() - began, 5)


class RefusedTest(Refusals):
    def test_bounds(self):
        for function in ALL:
            for bound in (-1, 10001, True, False, None, "1", (1,), 10 ** 900):
                with self.subTest(bound):
                    self.refused(BadBound, 0, function, ONE, (1,), bound, 1)

    def test_offs(self):
        for function in (safe, can_keep):
            for far in (-1, 2000001, True, False, None, "1", (1,), 10 ** 900):
                with self.subTest(far):
                    self.refused(BadBound, 1, function, ONE, (1,), 1, far)
        self.same(len(safe(ONE, (1,), 1, 2000000)), 3)

    def test_too_large(self):
        for function in ALL:
            for many, bound, number in (
                (1, 10000, 20001), (2, 71, 143 ** 2), (3, 14, 29 ** 3), (4, 6, 13 ** 4), (5, 4, 9 ** 5), (6, 3, 7 ** 6),
                (6, 10000, 20001 ** 6),
            ):
                with self.subTest(many, bound=bound):
                    book = plain((2,) * many)
                    self.refused(TooLarge, number, function, book, total(book), bound, 3)

    def test_just_not_too_large(self):
        for many, bound in ((1, 9999), (2, 70), (3, 13), (4, 5), (5, 3), (6, 2)):
            book = plain((2,) * many)
            with self.subTest(many):
                self.assertLessEqual((2 * bound + 1) ** many, 20000)
                self.assertIs(can_keep(book, total(book), bound, off(book, total(book))), True)
                self.assertIs(can_keep(book, total(book), bound, off(book, total(book)) - 1), False)
                self.same(least_off(book, total(book), bound), off(book, total(book)))
                self.assertNotEqual(safe(book, total(book), bound, 6), ())

    def test_errors_in_their_order(self):
        for function in ALL:
            self.refused(BadBook, -1, function, None, None, -1, -1)
            self.refused(BadLine, -1, function, ONE, None, -1, -1)
            self.refused(BadLine, 0, function, ONE, (0,), 10000, -1)
            self.refused(BadBound, 0, function, ONE, (1,), -1, -1)
            self.refused(BadBound, 0, function, ONE, (1,), 10001, 1)
            self.refused(TooLarge, 20001, function, ONE, (1,), 10000, 1)
        for function in (safe, can_keep):
            self.refused(BadBound, 1, function, ONE, (1,), 10000, -1)
