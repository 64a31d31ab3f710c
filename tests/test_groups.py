import itertools
import random

from byhalves.books import plain, total
from byhalves.errors import BadBook, BadLeads, NotAlike
from byhalves.groups import grouped
from byhalves.halves import halves
from byhalves.leads import best_leads
from byhalves.packings import packing
from byhalves.runs import run, stray, within
from refusals import Refusals
from values import some_book, some_history

RING = ((3, 3, 3), ((0, 1), (1, 2), (0, 2)))


def shown_by_words(steps, leads, truths):
    """What [23] says that is shown, reckoned anew."""
    nearest = [(truth + (steps - 1) // 2) // steps for truth in truths]
    shown = []
    for part in range(len(truths)):
        mended = 0
        if part in leads:
            gathered = sum(nearest[i] * steps - truths[i] for i in range(len(truths)) if leads[i] == part)
            mended = -((gathered + steps // 2) // steps)
        shown.append(nearest[part] + mended)
    return tuple(shown)


def told_along(player, history):
    return [player.moved(part, way) for part, way in history]


class GroupedTest(Refusals):
    def as_the_words_say(self, book, leads, history):
        """At each move the changes are those of the words, of the part that moved and its leader alone."""
        player = grouped(book, leads)
        truths = [0] * len(leads)
        before = shown_by_words(book[0][0], leads, truths)
        self.assertEqual(before, (0,) * len(leads))
        for part, way in history:
            truths[part] += way
            after = shown_by_words(book[0][0], leads, truths)
            changes = player.moved(part, way)
            self.same(changes, tuple((j, after[j] - before[j]) for j in range(len(leads)) if after[j] != before[j]))
            self.assertLessEqual({j for j, _ in changes}, {part, leads[part]})
            before = after

    def test_the_example(self):
        player = grouped(((4, 4), ((0,), (0, 1))), (0, 0))
        self.same(told_along(player, ((0, 1), (1, 1), (1, 1))), [(), (), ((0, 1),)])

    def test_arguments_by_name(self):
        self.same(told_along(grouped(leads=(0,), book=plain((2,))), ((0, 1), (0, 1))), [(), ((0, 1),)])

    def test_far_up_and_down(self):
        for steps in (1, 2, 3, 4, 7, 10):
            for leads in itertools.product(*RING[1]):
                history = ((0, 1), (1, -1), (2, 1)) * 25 + ((0, -1), (1, 1), (2, -1)) * 60 + ((1, 1),) * 40
                with self.subTest(steps, leads=leads):
                    self.as_the_words_say(((steps,) * 3, RING[1]), leads, history)

    def test_books_by_chance(self):
        chance = random.Random(23)
        for _ in range(300):
            many = some_book(chance, 6, linked=0.5)[1]
            book = ((chance.randint(1, 9),) * len(many), many)
            leads = tuple(chance.choice(row) for row in many)
            with self.subTest(book, leads=leads):
                self.as_the_words_say(book, leads, some_history(chance, book, 120))

    def test_all_lead_to_one(self):
        book = ((5,) * 6, (tuple(range(6)),) * 6)
        chance = random.Random(24)
        for one in range(6):
            self.as_the_words_say(book, (one,) * 6, some_history(chance, book, 300))

    def test_a_leader_that_does_not_lead_itself(self):
        book = ((4, 4, 4), ((0, 1), (1, 2), (2,)))
        chance = random.Random(25)
        for leads in ((1, 2, 2), (0, 2, 2), (1, 1, 2)):
            for _ in range(10):
                self.as_the_words_say(book, leads, some_history(chance, book, 200))
        # Parts 0 and 1 lead part 2, which leads part 3.
        player = grouped(((4,) * 4, ((0, 2), (1, 2), (2, 3), (3,))), (2, 2, 3, 3))
        self.same(
            told_along(player, ((0, 1), (0, 1), (1, 1), (1, 1), (1, 1))), [(), (), ((2, 1),), (), ((1, 1), (2, -1))]
        )

    def test_two_changes_are_rising(self):
        book = ((4, 4), ((0, 1), (0, 1)))
        for leads, last in (((0, 0), ((0, -1), (1, 1))), ((1, 1), ((0, 1), (1, -1)))):
            one, other = leads[0], 1 - leads[0]
            told = told_along(grouped(book, leads), ((one, 1), (one, 1), (other, 1), (other, 1), (other, 1)))
            self.same(told, [(), (), ((one, 1),), (), last])

    def test_the_links_are_kept(self):
        chance = random.Random(26)
        for _ in range(100):
            links = some_book(chance, 5, linked=0.4)[1]
            book = ((chance.randint(1, 8),) * len(links), links)
            leads = tuple(chance.choice(row) for row in links)
            history = some_history(chance, book, 60)
            run(book, grouped(book, leads), history)
            # A part strays by its rounding, and by what it makes up for all parts.
            self.assertIsNone(within(book, grouped(book, leads), history, 8 * (len(links) + 2)))

    def test_the_spread_of_the_total(self):
        chance = random.Random(27)
        for _ in range(200):
            links = some_book(chance, 5, linked=0.4)[1]
            steps = chance.randint(1, 8)
            book = ((steps,) * len(links), links)
            leads = best_leads(book)
            player = grouped(book, leads)
            history = some_history(chance, book, 80)
            seen = [stray(book, total(book), run(book, player, history[:end])) for end in range(len(history) + 1)]
            self.assertLessEqual(max(seen) - min(seen), len(set(leads)) * (steps - 1))

    def test_plain_books_go_by_halves(self):
        chance = random.Random(30)
        for steps in range(1, 11):
            book = plain((steps, steps))
            history = some_history(chance, book, 100)
            self.same(told_along(grouped(book, (0, 1)), history), told_along(halves(book, (0, 0)), history))

    def test_the_example_of_best_leads(self):
        self.assertEqual(len(packing(RING, (1, 1, 1))[0]), 1)
        chance = random.Random(28)
        for _ in range(20):
            self.as_the_words_say(RING, best_leads(RING), some_history(chance, RING, 150))

    def test_copies(self):
        chance = random.Random(29)
        for _ in range(40):
            history = some_history(chance, RING, 40)
            player = grouped(RING, (1, 1, 0))
            told_along(player, history)
            other = player.copy()
            third = other.copy()
            onward = some_history(chance, RING, 30)
            back = tuple((part, -way) for part, way in onward)
            expected = told_along(player, onward)
            told_along(third, back)
            self.assertEqual(told_along(other, onward), expected)
            fresh = grouped(RING, (1, 1, 0))
            told_along(fresh, history)
            self.assertEqual(told_along(fresh, onward), expected)

    def test_errors_in_their_order(self):
        self.refused(BadBook, -1, grouped, None, None)
        self.refused(BadBook, (1, 0), grouped, ((3, 4), ((1,), (0,))), None)
        self.refused(NotAlike, 1, grouped, plain((3, 4)), None)
        self.refused(NotAlike, 2, grouped, plain((3, 3, 4)), (0, 0, 0))
        self.refused(BadLeads, -1, grouped, RING, (0, 1))
        self.refused(BadLeads, 1, grouped, RING, (0, 0, 0))
        self.refused(BadLeads, 0, grouped, RING, (False, 1, 2))
