import random
import time

from byhalves.books import plain, total
from byhalves.closing import can_keep, least_off, safe
from byhalves.errors import BadBook, BadBound, BadLine, NoKeeper, TooLarge
from byhalves.keepers import keeper
from byhalves.packings import off
from byhalves.runs import run, stray, within
from refusals import Refusals
from striking import behind
from values import some_book, some_history, some_line

ONE = plain((2,))


def told_along(player, history):
    return [player.moved(part, way) for part, way in history]


def some_question(chance):
    """A book, a line, a bound and an off that can be kept, just or with something to spare."""
    while True:
        book = some_book(chance, 3, steps=(1, 2, 3, 4), linked=chance.choice((0, 0.4, 0.8)))
        line = some_line(chance, book, (-3, -2, -1, 0, 1, 1, 2))
        bound = chance.choice(((3, 5, 7), (2, 3, 4), (2, 3))[len(book[0]) - 1])
        least = least_off(book, line, bound)
        if least is not None:
            return book, line, bound, least + chance.choice((0, 0, 1, 3))


class KeeperTest(Refusals):
    def as_the_words_say(self, book, line, bound, far, history):
        """At each move the least changes that lead into the lot, of these the least tuple."""
        lot = {strays: True for strays in safe(book, line, bound, far)}
        player = keeper(book, line, bound, far)
        strays = (0,) * len(book[0])
        for part, way in history:
            leading = [one for one in behind(book, strays, part, way, bound) if one[1] in lot]
            numbers, strays = min(leading, key=lambda one: (sum(map(abs, one[0])), one[0]))
            changes = tuple((j, by) for j, by in zip(book[1][part], numbers) if by != 0)
            self.same(player.moved(part, way), changes)

    def test_the_example(self):
        self.same(told_along(keeper(ONE, (1,), 1, 1), ((0, 1), (0, 1))), [(), ((0, 1),)])
        self.same(told_along(keeper(off=1, bound=1, line=(1,), book=ONE), ((0, -1), (0, -1))), [(), ((0, -1),)])

    def test_the_least_sum_of_sizes(self):
        # A change by one would do as well as by two, or three.
        self.same(told_along(keeper(plain((1,)), (1,), 9, 9), ((0, 1),) * 10), [()] * 9 + [((0, 1),)])

    def test_of_equal_sums_the_least_tuple(self):
        book = ((2, 2), ((0, 1), (1,)))
        # Either part can go up to bring the total back; (0, 1) is less than (1, 0).
        told = told_along(keeper(book, (1, 1), 3, 1), ((0, 1),) * 2)
        self.same(told, [(), ((1, 1),)])
        # Either can go down: (-1, 0) is less than (0, -1).
        told = told_along(keeper(book, (1, 1), 3, 1), ((0, -1),) * 2)
        self.same(told, [(), ((0, -1),)])

    def test_against_the_words(self):
        chance = random.Random(28)
        changed = 0
        for _ in range(60):
            question = some_question(chance)
            with self.subTest(question):
                self.as_the_words_say(*question, some_history(chance, question[0], 15))
        for book, line, bound, far in (
            (((1, 1), ((0, 1), (0, 1))), (2, 5), 6, 1), (((2, 3), ((0, 1), (0, 1))), (3, -4), 6, 3),
            (((1, 1, 2), ((0, 1, 2), (1, 2), (2,))), (2, -3, 1), 3, 1), (((3, 2), ((0, 1), (1,))), (1, 2), 5, 3),
        ):
            with self.subTest(book):
                self.assertTrue(can_keep(book, line, bound, far))
                history = some_history(chance, book, 40) + tuple((part, 1) for part in range(len(book[0]))) * 12
                self.as_the_words_say(book, line, bound, far, history)
                told = told_along(keeper(book, line, bound, far), history)
                changed += sum(len(changes) > 1 for changes in told)
        self.assertGreater(changed, 2)

    def test_long_histories_keep_all(self):
        chance = random.Random(280)
        for _ in range(40):
            book, line, bound, far = some_question(chance)
            history = sum((some_history(chance, book, 30) for _ in range(30)), ())
            history += tuple((part, -1) for part in range(len(book[0])) for _ in range(40))
            with self.subTest(book, line=line, bound=bound, off=far):
                player = keeper(book, line, bound, far)
                self.assertIsNone(within(book, player, history, bound))
                for end in (1, 100, len(history)):
                    self.assertLessEqual(abs(stray(book, line, run(book, player, history[:end]))), far)
                strays = [0] * len(line)
                for part, way in history:
                    strays[part] -= way
                    for j, by in player.moved(part, way):
                        strays[j] += by * book[0][j]
                    self.assertLessEqual(abs(sum(weight * stray for weight, stray in zip(line, strays))), far)

    def test_the_lot_is_never_left(self):
        chance = random.Random(281)
        book = ((4, 4, 3), ((0, 1), (1, 2), (0, 2)))
        far = least_off(book, total(book), 4)
        lot = safe(book, total(book), 4, far)
        player = keeper(book, total(book), 4, far)
        strays = [0, 0, 0]
        for _ in range(2000):
            part, way = chance.randrange(3), chance.choice((1, -1))
            strays[part] -= way
            for j, by in player.moved(part, way):
                self.assertIn(j, book[1][part])
                strays[j] += by * book[0][j]
            self.assertIn(tuple(strays), lot)

    def test_the_largest_books(self):
        chance = random.Random(282)
        for many, bound in ((1, 9999), (2, 70), (6, 2)):
            for links in (tuple((i,) for i in range(many)), (tuple(range(many)),) * many):
                book = ((2,) * many, links)
                began = time.perf_counter()
                player = keeper(book, total(book), bound, off(plain(book[0]), total(book)))
                for _ in range(300):
                    player.moved(chance.randrange(many), chance.choice((1, 1, -1)))
                self.assertLess(time.perf_counter() - began, 20)


class NoKeeperTest(Refusals):
    def test_just_where_noughts_are_in_no_lot(self):
        self.refused(NoKeeper, 0, keeper, ONE, (1,), 1, 0)
        self.refused(NoKeeper, 0, keeper, ONE, (1,), 0, 5)
        chance = random.Random(283)
        none = 0
        for _ in range(300):
            book = some_book(chance, 3, steps=(1, 2, 3, 4))
            line, bound, far = some_line(chance, book), chance.randint(0, 3), chance.randint(0, 6)
            if can_keep(book, line, bound, far):
                keeper(book, line, bound, far)
            else:
                none += 1
                self.refused(NoKeeper, 0, keeper, book, line, bound, far)
        self.assertTrue(50 < none < 250)

    def test_where_a_lot_has_no_noughts(self):
        # The tuples that are left keep away from noughts.
        chance = random.Random(261)
        found = 0
        while found < 3:
            book = some_book(chance, 3, steps=(1, 2, 3, 4, 5), linked=chance.choice((0, 0.4, 0.8)))
            line, bound, far = some_line(chance, book), chance.randint(1, 3), chance.randint(0, 6)
            lot = safe(book, line, bound, far)
            if lot and (0,) * len(book[0]) not in lot:
                found += 1
                self.refused(NoKeeper, 0, keeper, book, line, bound, far)

    def test_errors_in_their_order(self):
        self.refused(BadBook, -1, keeper, None, None, -1, -1)
        self.refused(BadLine, -1, keeper, ONE, None, -1, -1)
        self.refused(BadLine, 0, keeper, ONE, (0,), -1, -1)
        self.refused(TooLarge, 20001, keeper, ONE, (1,), 10000, 0)
        for wrong in (-1, True, False, None, "1", (1,), 10 ** 900):
            with self.subTest(wrong):
                self.refused(BadBound, 0, keeper, ONE, (1,), wrong, wrong)
                self.refused(BadBound, 1, keeper, ONE, (1,), 10000, wrong)
        self.refused(BadBound, 0, keeper, ONE, (1,), 10001, 2000001)
        self.refused(BadBound, 1, keeper, ONE, (1,), 1, 2000001)
        self.same(told_along(keeper(ONE, (1,), 1, 2000000), ((0, 1),)), [()])


class CopiesTest(Refusals):
    def test_a_copy_goes_on_alike_and_neither_changes_the_other(self):
        chance = random.Random(284)
        for _ in range(40):
            question = some_question(chance)
            history, onward = some_history(chance, question[0], 30), some_history(chance, question[0], 30)
            player = keeper(*question)
            told_along(player, history)
            other = player.copy()
            third = other.copy()
            told = told_along(player, onward)
            told_along(third, tuple((part, -way) for part, way in onward))
            self.assertEqual(told_along(other, onward), told)
            fresh = keeper(*question)
            self.assertEqual(told_along(fresh, history + onward)[len(history):], told)
