import itertools
import random
import time

from byhalves.books import plain, total
from byhalves.breaker import breaker, off_history
from byhalves.errors import BadBook, BadBound, BadLine, TooLarge
from byhalves.groups import grouped
from byhalves.halves import halves
from byhalves.keepers import keeper
from byhalves.leads import best_leads
from byhalves.packings import off, packing, reach
from byhalves.papers import paper_right
from byhalves.runs import run, stray
from byhalves.tables import table_player
from players import Follower, Scripted, Still
from refusals import Refusals
from values import counting_table, some_book, some_halves, some_line, some_table

PAIR = plain((2, 2))


class BreakerTest(Refusals):
    def breaks(self, book, line, player, bound):
        """The paper that is told, which is a right one, twice the same."""
        paper = breaker(book, line, player, bound)
        self.assertIs(paper_right(book, line, player, bound, paper), True, (book, line, bound, paper))
        self.same(breaker(book, line, player, bound), paper)
        history = off_history(book, line, player, bound)
        if paper[0] == "spread":
            first, second = [abs(stray(book, line, run(book, player, one))) for one in paper[1:]]
            self.same(history, paper[1] if first >= second else paper[2])
            self.assertGreaterEqual(max(first, second), off(book, line))
        else:
            self.same(history, paper[1])
        return paper

    def words(self, cases):
        """How many papers there are of each word."""
        found = {"spread": 0, "bound": 0, "rule": 0}
        for case in cases:
            with self.subTest(case):
                found[self.breaks(*case)[0]] += 1
        return found


class PlayersTest(BreakerTest):
    def test_halves_with_all_ties(self):
        for steps in ((2, 2), (4, 4), (3, 5), (1, 6), (4, 2, 3), (1, 1)):
            book = plain(steps)
            for ties in itertools.product((0, 1), repeat=len(steps)):
                for line in (total(book), tuple((-1) ** i * (i + 1) for i in range(len(steps)))):
                    with self.subTest(book, ties=ties, line=line):
                        player = halves(book, ties)
                        self.assertEqual(self.breaks(book, line, player, 3)[0], "spread")
                        self.breaks(book, line, player, 1)

    def test_a_table_with_memory_that_keeps_a_bound(self):
        for steps in (2, 3, 5, 12):
            player = counting_table(steps)
            for line in ((1,), (-3,)):
                with self.subTest(steps, line=line):
                    self.assertEqual(self.breaks(plain((steps,)), line, player, steps - 1)[0], "spread")
                    self.assertEqual(self.breaks(plain((steps,)), line, player, 0)[0], "bound")

    def test_a_table_that_breaks_the_links(self):
        stay = ((), 0)
        player = table_player(PAIR, ((stay, stay, (((0, 1),), 0), stay),))
        self.assertEqual(self.breaks(PAIR, (1, 1), player, 9)[0], "rule")
        # Only in row 1, which part 0 leads to from row 0, the links are broken by part 0.
        row = ((((0, 1),), 1), ((), 0), ((), 0), ((), 0))
        bad = ((((1, 1),), 0), ((), 0), ((), 1), ((), 1))
        self.assertEqual(self.breaks(PAIR, (1, 0), table_player(PAIR, (row, bad)), 9)[0], "rule")

    def test_one_that_shows_nothing(self):
        for line in ((1, 1), (-1, 1), (0, -2), (20, -20)):
            for bound in (0, 1, 2):
                with self.subTest(line, bound=bound):
                    self.breaks(PAIR, line, Still(), bound)
        self.assertEqual(self.breaks(plain((9,)), (1,), Still(), 7)[0], "bound")

    def test_one_of_another_form(self):
        for told in (None, [], 7, ((0, 0),), ((2, 1),), ((0, True),), "no"):
            with self.subTest(told):
                self.assertEqual(self.breaks(PAIR, (1, 1), Scripted((told,) * 9), 3)[0], "rule")
                late = Scripted(((), ((0, 1),), told))
                self.breaks(PAIR, (1, 0), late, 3)

    def test_ones_that_mend_the_total(self):
        for links in (((0, 1), (0, 1)), ((0,), (0, 1)), ((0, 1), (1,))):
            for steps in (2, 3, 4, 7):
                book = ((steps, steps), links)
                with self.subTest(book):
                    player = grouped(book, best_leads(book))
                    self.assertEqual(self.breaks(book, (1, 1), player, 20)[0], "spread")
                    self.breaks(book, (1, 1), player, 1)
                    self.breaks(book, (2, -1), player, 3)
        ring = ((3, 3, 3), ((0, 1), (1, 2), (0, 2)))
        self.assertEqual(self.breaks(ring, (1, 1, 1), grouped(ring, (0, 1, 0)), 20)[0], "spread")

    def test_keepers(self):
        for book, line, bound in ((PAIR, (1, 1), 2), (plain((4, 3)), (1, -1), 3), (((4, 4), ((0, 1), (1,))), (1, 1), 4)):
            with self.subTest(book):
                player = keeper(book, line, bound, off(book, line))
                self.assertEqual(self.breaks(book, line, player, bound)[0], "spread")

    def test_players_that_go_by_anything(self):
        for line in ((1, 1), (-1, 2), (0, 1)):
            for bound in (0, 1, 5):
                self.breaks(PAIR, line, Follower(), bound)

    def test_players_by_chance(self):
        chance = random.Random(16)
        cases = []
        for _ in range(2500):
            book = some_book(chance, 4, linked=chance.choice((0, 0.3, 0.6)))
            line = some_line(chance, book)
            player = chance.choice((
                some_halves(chance, book), some_table(chance, book, chance.choice((1, 5, 40))),
                some_table(chance, book, 6, breaks=True), Still(),
            ))
            bound = chance.choice((0, 1, 2, 3, 5, 8))
            if rounds(book, line, bound) <= 100000:
                cases.append((book, line, player, bound))
        self.assertGreater(min(self.words(cases).values()), 100)


class ReachTest(BreakerTest):
    def test_a_reach_of_nought(self):
        for book, line in ((plain((1, 1)), (1, 1)), (plain((1, 9)), (3, 0)), (((4, 1), ((0, 1), (1,))), (1, 1))):
            for player in (Still(), Scripted((None,) * 9)):
                for bound in (0, 1, 10000):
                    with self.subTest(book, bound=bound):
                        self.assertEqual(reach(book, line), 0)
                        self.breaks(book, line, player, bound)

    def test_the_bound_nought(self):
        for player in (halves(PAIR, (0, 1)), Still(), Follower()):
            self.assertEqual(self.breaks(PAIR, (1, 1), player, 0)[0], "bound")

    def test_the_greatest_bound(self):
        book = plain((60,))
        self.assertEqual(self.breaks(book, (1,), halves(book, (0,)), 10000)[0], "spread")
        self.assertEqual(self.breaks(plain((2,)), (-2,), Still(), 10000)[0], "spread")

    def test_parts_of_weight_nought(self):
        book = ((4, 4, 6), ((0, 1), (1,), (1, 2)))
        for line in ((1, 0, 0), (0, 0, -1), (2, 0, 1), (0, 5, 0)):
            for ties in ((0, 0, 0), (1, 1, 1)):
                with self.subTest(line):
                    self.breaks(book, line, halves(book, ties), 4)

    def test_off_takes_the_farther_end(self):
        # From nought the line falls by 3 alone, so it is off by 3 behind the second history.
        book = plain((4,))
        paper = ("spread", (), ((0, 1),) * 3)
        self.same(breaker(book, (1,), Still(), 9), paper)
        self.same(off_history(book, (1,), Still(), 9), paper[2])

    def test_off_takes_the_first_of_equals(self):
        for steps in (3, 5, 9):
            book = plain((steps,))
            player = halves(book, (0,))
            paper = self.breaks(book, (1,), player, steps)
            ends = [stray(book, (1,), run(book, player, history)) for history in paper[1:]]
            self.assertEqual(ends, [steps // 2, -(steps // 2)])
            self.same(off_history(book, (1,), player, steps), paper[1])


def rounds(book, line, bound):
    """The product of [17]."""
    product = 1
    for i in packing(book, line)[0]:
        product *= 2 * bound * sum(abs(line[j]) for j in book[1][i]) + 2
    return product


class LargeTest(BreakerTest):
    def test_just_at_the_limit_and_above(self):
        # One part: 2 * bound * weight + 2.
        for steps, weight, bound in ((2, 5, 9999), (2, 20, 2499), (3, -16, 3124)):
            product = 2 * bound * abs(weight) + 2
            self.assertLessEqual(product, 100000)
            self.breaks(plain((steps,)), (weight,), halves(plain((steps,)), (1,)), bound)
            next_one = product + 2 * abs(weight)
            self.assertGreater(next_one, 100000)
            for function in (breaker, off_history):
                self.refused(TooLarge, next_one, function, plain((steps,)), (weight,), Scripted((None,)), bound + 1)

    def test_a_product_of_just_100000(self):
        book = ((2, 2, 10, 2, 10), ((0,), (1, 2), (1, 2), (3, 4), (3, 4)))
        line = (19, 20, -4, -20, 4)
        self.assertEqual(packing(book, line)[0], (0, 2, 4))
        self.assertEqual((2 * 19 + 2) * (2 * 24 + 2) * (2 * 24 + 2), 100000)
        for player in (halves(book, (0, 1, 0, 1, 0)), Still(), Follower(), Scripted(((), ((0, 1),), None))):
            self.breaks(book, line, player, 1)
        for function in (breaker, off_history):
            self.refused(TooLarge, 78 * 98 * 98, function, book, line, Still(), 2)

    def test_a_product_of_several_parts_above(self):
        for function in (breaker, off_history):
            self.refused(TooLarge, 290 * 674, function, plain((2, 2)), (3, 7), Still(), 48)
            self.refused(TooLarge, 62 ** 3, function, plain((2, 3, 4)), (1, -1, 1), Still(), 30)

    def test_the_packing_alone_counts(self):
        book = plain((1,) * 6)
        self.same(breaker(book, (20,) * 6, Still(), 10000), ("spread", (), ()))
        # Part 1 has no gap, so its weight does not count.
        self.breaks(plain((2, 1)), (1, 20), Still(), 9999)

    def test_weights_over_all_links_count(self):
        book = ((4, 4), ((0, 1), (0, 1)))
        self.assertEqual(packing(book, (-2, 3))[0], (0,))
        self.refused(TooLarge, 2 * 10000 * 5 + 2, breaker, book, (-2, 3), Still(), 10000)
        self.breaks(book, (-2, 3), Still(), 9999)


class QuickTest(BreakerTest):
    """The sizes of which [17] says that they are told quickly."""

    def quick(self, book, line, player, bound):
        began = time.perf_counter()
        breaker(book, line, player, bound)
        self.assertLess(time.perf_counter() - began, 20)

    def test_three_parts(self):
        chance = random.Random(17)
        for _ in range(60):
            book = plain(tuple(chance.choice((2, 3, 4)) for _ in range(3)))
            line = some_line(chance, book, (-2, -1, 1, 1, 2))
            for bound in (2, 4, 6):
                if rounds(book, line, bound) <= 100000:
                    for player in (some_halves(chance, book), some_table(chance, book, 40), Still()):
                        self.quick(book, line, player, bound)

    def test_two_parts(self):
        chance = random.Random(18)
        for _ in range(60):
            book = plain(tuple(chance.choice((11, 12)) for _ in range(2)))
            line = some_line(chance, book, (-4, -1, 1, 3, 6))
            for player in (some_halves(chance, book), some_table(chance, book, 40), Still()):
                for bound in (6, 12, 24):
                    self.quick(book, line, player, bound)


class StubbornTest(BreakerTest):
    """A player that lets the line rise again and again as little as it can."""

    def test_many_rounds(self):
        for steps, bound in ((4, 6), (12, 24)):
            book = plain((steps, steps))
            self.breaks(book, (1, 1), Climber(steps, bound), bound)
        book = plain((4, 4, 4))
        self.assertEqual(self.breaks(book, (1, 1, 1), Climber(4, 6), 6)[0], "bound")


class Climber:
    """Lets each part fall so far that it rises by one in all at the next change, until the bound is near."""

    def __init__(self, steps, bound, strays=None, falls=None):
        self.steps = steps
        self.bound = bound
        self.strays = dict(strays or {})
        self.falls = dict(falls or {})

    def copy(self):
        return Climber(self.steps, self.bound, self.strays, self.falls)

    def moved(self, part, way):
        self.strays[part] = self.strays.get(part, 0) - way
        self.falls[part] = self.falls.get(part, 0) + way
        if self.falls[part] >= self.steps - 1:
            self.falls[part] = 0
            self.strays[part] += self.steps
            return ((part, 1),)
        return ()


class RefusedTest(BreakerTest):
    def test_bounds(self):
        for function in (breaker, off_history):
            for bound in (-1, 10001, True, False, None, "1", (1,), 10 ** 900):
                with self.subTest(function, bound=bound):
                    self.refused(BadBound, 0, function, PAIR, (1, 1), Scripted((None,)), bound)

    def test_errors_in_their_order(self):
        book = plain((2,))
        for function in (breaker, off_history):
            with self.subTest(function):
                self.refused(BadBook, -1, function, None, None, Still(), -1)
                self.refused(BadBook, (0, 0), function, ((0,), ((0,),)), None, Still(), -1)
                self.refused(BadLine, -1, function, book, None, Still(), -1)
                self.refused(BadLine, 0, function, book, (21,), Still(), -1)
                self.refused(BadLine, 0, function, book, (0,), Still(), 10001)
                self.refused(BadBound, 0, function, book, (20,), Still(), 10001)
                self.refused(TooLarge, 400002, function, book, (20,), Still(), 10000)

    def test_nothing_is_asked_ahead_of_what_is_refused(self):
        player = Scripted((None,))
        self.refused(TooLarge, 400002, breaker, plain((2,)), (20,), player, 10000)
        self.assertEqual(player.calls, [])

    def test_arguments_by_name(self):
        self.same(breaker(bound=9, player=Still(), line=(1,), book=plain((4,))), ("spread", (), ((0, 1),) * 3))
        self.same(off_history(bound=9, player=Still(), line=(1,), book=plain((4,))), ((0, 1),) * 3)


class UntouchedTest(BreakerTest):
    def test_the_player_stays_as_it_is(self):
        for function in (breaker, off_history):
            player = halves(PAIR, (0, 1))
            player.moved(0, 1)
            function(PAIR, (1, 1), player, 3)
            self.same(player.moved(0, 1), ((0, 1),))

    def test_copies_alone_are_asked(self):
        # A Scripted that is asked itself fails.
        breaker(PAIR, (1, 1), Scripted((((0, 1),), ((1, 1),))), 2)
        off_history(PAIR, (1, 1), Scripted((((0, 1),), ((1, 1),))), 2)

    def test_one_that_is_on_its_way(self):
        player = halves(plain((4,)), (0,))
        for _ in range(3):
            player.moved(0, 1)
        self.breaks(plain((4,)), (1,), player, 9)
