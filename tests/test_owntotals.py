import random

from byhalves.books import plain, total
from byhalves.errors import BadBook, BadBound, NotAlike, NotPlain
from byhalves.owntotals import least_own, own_total
from byhalves.packings import off
from byhalves.runs import run
from byhalves.halves import halves
from refusals import Refusals
from values import some_history

FIVE = plain((10,) * 5)
BOTH = (least_own, lambda book, q: own_total(book, ((0,) * 9, (0,) * 9), q))


def nearest_by_trying(steps, truths, shown, q):
    """The own total, by a listing of all numbers that q lets."""
    about = sum(shown)
    return min(range(about - q, about + q + 1), key=lambda number: (abs(number * steps - sum(truths)), number))


class LeastOwnTest(Refusals):
    def test_the_examples(self):
        for q, least in ((0, 23), (1, 13), (2, 5)):
            self.same(least_own(FIVE, q), least)
        self.same(least_own(q=1, book=FIVE), 13)

    def test_each_of_the_two_the_greater(self):
        for steps in range(1, 61):
            for many in range(1, 7):
                book = plain((steps,) * many)
                for q in (0, 1, 2, 3, 99, 100):
                    off_by = (many * (steps - 1) + 1) // 2
                    self.assertEqual(off(book, total(book)), off_by)
                    self.same(least_own(book, q), max(steps // 2, off_by - q * steps))

    def test_steps_of_one(self):
        for many in range(1, 7):
            self.same(least_own(plain((1,) * many), 0), 0)
            self.same(least_own(plain((1,) * many), 100), 0)

    def test_one_part(self):
        self.same([least_own(plain((steps,)), 0) for steps in (1, 2, 3, 4, 59, 60)], [0, 1, 1, 2, 29, 30])

    def test_the_least_and_the_greatest_q(self):
        self.same(least_own(plain((60,) * 6), 0), 177)
        self.same(least_own(plain((60,) * 6), 100), 30)


class OwnTotalTest(Refusals):
    def test_the_example(self):
        book, state = plain((10, 10)), ((4, 4), (0, 0))
        self.same(own_total(book, state, 0), 0)
        self.same(own_total(book, state, 1), 1)
        self.same(own_total(q=1, state=state, book=book), 1)

    def test_of_two_as_near_the_lesser_one(self):
        for truths, told in (((5, 0), 0), ((10, 5), 1), ((-5, 0), -1), ((-10, -5), -2), ((3, 3), 1), ((-3, -3), -1)):
            with self.subTest(truths):
                self.same(own_total(plain((10, 10)), (truths, (0, 0)), 3), told)
        # Only the upper one of the two is let, then only the lower one.
        self.same(own_total(plain((10, 10)), ((5, 0), (1, 0)), 0), 1)
        self.same(own_total(plain((10, 10)), ((5, 0), (0, 0)), 0), 0)
        self.same(own_total(plain((10, 10)), ((5, 0), (3, -1)), 1), 1)

    def test_beyond_what_q_lets(self):
        self.same(own_total(plain((4, 4)), ((100, 0), (3, 1)), 2), 6)
        self.same(own_total(plain((4, 4)), ((-100, 0), (3, 1)), 2), 2)
        self.same(own_total(plain((4, 4)), ((-100, 0), (3, 1)), 100), -25)

    def test_far_from_nought(self):
        far = 10 ** 900
        self.same(own_total(plain((7, 7)), ((7 * far, 4), (far, 0)), 1), far + 1)
        self.same(own_total(plain((7, 7)), ((-7 * far, 3), (-far, 0)), 1), -far)
        self.same(own_total(plain((7, 7)), ((-7 * far, 4), (-far, 0)), 0), -far)
        self.same(own_total(plain((7, 7)), ((-7 * far, -4), (-far, 0)), 5), -far - 1)

    def test_states_by_chance(self):
        chance = random.Random(25)
        for _ in range(2000):
            many, steps, q = chance.randint(1, 6), chance.randint(1, 60), chance.choice((0, 0, 1, 2, 100))
            truths = tuple(chance.randint(-200, 200) for _ in range(many))
            shown = tuple(truth // steps + chance.randint(-1, 1) for truth in truths)
            with self.subTest(truths, shown=shown, steps=steps, q=q):
                told = own_total(plain((steps,) * many), (truths, shown), q)
                self.same(told, nearest_by_trying(steps, truths, shown, q))

    def test_halves_by_turns_keep_it_within_the_least(self):
        chance = random.Random(26)
        for steps in (1, 2, 3, 4, 9, 10):
            for many in (1, 2, 3, 5, 6):
                book = plain((steps,) * many)
                for ties in ((0, 1, 0, 1, 0, 1), (1, 0, 1, 0, 1, 0)):
                    player = halves(book, ties[:many])
                    ends = [((i, way),) * (steps // 2) for way in (1, -1) for i in range(many)]
                    histories = [some_history(chance, book, 60) for _ in range(8)]
                    histories += [sum(ends[:many], ()), sum(ends[many:], ()), sum(ends[::2], ())]
                    for history in histories:
                        truths, shown = run(book, player, history)
                        for q in (0, 1, 2):
                            figure = own_total(book, (truths, shown), q)
                            self.assertLessEqual(abs(figure * steps - sum(truths)), least_own(book, q))
                            self.assertLessEqual(abs(figure - sum(shown)), q)


class RefusedTest(Refusals):
    def test_a_book_that_is_not_plain(self):
        for function in BOTH:
            self.refused(NotPlain, 0, function, ((4, 4), ((0, 1), (0, 1))), 0)
            self.refused(NotPlain, 1, function, ((4, 4, 4), ((0,), (1, 2), (0, 2))), 0)
            self.refused(NotPlain, 2, function, ((4, 4, 4), ((0,), (1,), (1, 2))), 0)
            # Ahead of steps that are not alike, and of a q that is none.
            self.refused(NotPlain, 2, function, ((4, 5, 4), ((0,), (1,), (1, 2))), -1)

    def test_steps_that_are_not_alike(self):
        for function in BOTH:
            self.refused(NotAlike, 1, function, plain((4, 5, 4)), 0)
            self.refused(NotAlike, 2, function, plain((4, 4, 5, 6)), -1)

    def test_a_q_that_is_none(self):
        for function in BOTH:
            for q in (-1, 101, True, False, None, "1", (1,), 10 ** 900):
                with self.subTest(q):
                    self.refused(BadBound, 0, function, FIVE, q)

    def test_the_book_ahead(self):
        for function in BOTH:
            self.refused(BadBook, -1, function, None, -1)
            self.refused(BadBook, (0, 1), function, ((4, 61), ((0, 1), (1,))), 0)
