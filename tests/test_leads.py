import itertools
import random

from byhalves.books import plain
from byhalves.errors import BadBook, BadLeads, NotAlike
from byhalves.leads import best_leads, made_leads
from refusals import Refusals

RING = ((3, 3, 3), ((0, 1), (1, 2), (0, 2)))
UNLIKE = ((3, 3, 4, 3, 5), ((0,), (1,), (2,), (3,), (4,)))


def best_by_trying(book):
    """The best leads, by a listing of all leads."""
    return min(itertools.product(*book[1]), key=lambda leads: (len(set(leads)), leads))


class MadeLeadsTest(Refusals):
    def test_right_leads(self):
        for leads in itertools.product(*RING[1]):
            self.same(made_leads(RING, leads), leads)
        self.same(made_leads(thing=(0, 1), book=plain((4, 4))), (0, 1))
        everywhere = ((2,) * 6, (tuple(range(6)),) * 6)
        self.same(made_leads(everywhere, (5, 0, 5, 5, 1, 0)), (5, 0, 5, 5, 1, 0))

    def test_no_tuple_of_as_many(self):
        for thing in (None, True, 0, "012", [0, 1, 0], (), (0,), (0, 1), (0, 1, 0, 0), ((0, 1, 0),), "0"):
            with self.subTest(thing):
                self.refused(BadLeads, -1, made_leads, RING, thing)

    def test_leads_outside_of_the_links(self):
        for wrong in (2, -1, 3, True, False, None, "0", "", (0,), (), 10 ** 900):
            with self.subTest(wrong):
                self.refused(BadLeads, 0, made_leads, RING, (wrong, 1, 2))
        for wrong in (0, 3, -2, True, "1", None, ((1,),)):
            with self.subTest(wrong):
                self.refused(BadLeads, 1, made_leads, RING, (1, wrong, 2))
                self.refused(BadLeads, 1, made_leads, RING, (1, wrong, 1))
        self.refused(BadLeads, 2, made_leads, RING, (0, 1, 1))

    def test_true_is_no_part_of_links(self):
        self.refused(BadLeads, 1, made_leads, ((2, 2), ((0, 1), (0, 1))), (0, True))
        self.refused(BadLeads, 0, made_leads, ((2, 2), ((0, 1), (0, 1))), (False, 2))

    def test_the_first_decides(self):
        self.refused(BadLeads, 0, made_leads, RING, (None, None, None))
        self.refused(BadLeads, 1, made_leads, RING, (0, 0, 1))

    def test_links_go_from_the_part(self):
        book = ((2, 2), ((0, 1), (1,)))
        self.same(made_leads(book, (1, 1)), (1, 1))
        self.refused(BadLeads, 1, made_leads, book, (0, 0))

    def test_errors_in_their_order(self):
        self.refused(BadBook, -1, made_leads, None, None)
        self.refused(BadBook, (0, 3), made_leads, ((3, 3, 4, 0), ((0,), (1,), (2,), (3,))), None)
        self.refused(NotAlike, 2, made_leads, UNLIKE, None)
        self.refused(NotAlike, 1, made_leads, plain((4, 3, 4)), (0, 1, 2))
        self.refused(NotAlike, 1, made_leads, plain((4, 3, 3)), (0, 0, 0))


class BestLeadsTest(Refusals):
    def test_the_example(self):
        self.same(best_leads(RING), (0, 1, 0))
        self.same(best_leads(book=RING), (0, 1, 0))

    def test_plain_books(self):
        for many in range(1, 7):
            self.same(best_leads(plain((7,) * many)), tuple(range(many)))

    def test_one_part_for_all(self):
        for one in range(6):
            links = tuple(tuple(sorted({i, one})) for i in range(6))
            self.same(best_leads(((2,) * 6, links)), (one,) * 6)
        self.same(best_leads(((2,) * 6, (tuple(range(6)),) * 6)), (0,) * 6)

    def test_a_leader_that_does_not_lead_itself(self):
        # Part 1 is led by part 0 alone, part 0 by part 1 or itself.
        self.same(best_leads(((2, 2, 2), ((0, 1), (1, 2), (2,)))), (0, 2, 2))
        self.same(best_leads(((2, 2, 2, 2), ((0, 1), (1, 2), (1, 2), (2, 3)))), (0, 2, 2, 2))

    def test_fewer_leaders_ahead_of_a_lesser_tuple(self):
        self.same(best_leads(((2, 2), ((0, 1), (1,)))), (1, 1))
        self.same(best_leads(((2, 2, 2), ((0, 2), (1, 2), (2,)))), (2, 2, 2))

    def test_the_least_of_several_lots(self):
        book = ((2,) * 4, ((0, 3), (1, 2), (1, 2), (0, 3)))
        self.same(best_leads(book), (0, 1, 1, 0))

    def test_books_by_chance(self):
        chance = random.Random(22)
        for _ in range(300):
            many = chance.randint(1, 6)
            linked = chance.choice((0.1, 0.3, 0.6))
            links = tuple(tuple(j for j in range(many) if i == j or chance.random() < linked) for i in range(many))
            book = ((chance.randint(1, 60),) * many, links)
            with self.subTest(book):
                self.same(best_leads(book), best_by_trying(book))
                self.same(made_leads(book, best_leads(book)), best_leads(book))

    def test_errors_in_their_order(self):
        self.refused(BadBook, -1, best_leads, ())
        self.refused(BadBook, (1, 2), best_leads, ((3, 3, 4), ((0,), (1,), (1,))))
        self.refused(NotAlike, 2, best_leads, UNLIKE)
        self.refused(NotAlike, 1, best_leads, plain((1, 2, 1)))
