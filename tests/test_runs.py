from byhalves.books import plain
from byhalves.errors import BadBook, BadBound, BadHistory, BadLine, Broken
from byhalves.halves import halves
from byhalves.runs import run, stray, strays, within
from byhalves.tables import table_player
from players import Follower, Scripted
from refusals import Refusals

BOOK = plain((4, 10))
LINKED = ((4, 10, 3), ((0, 1), (1,), (0, 1, 2)))
UP = (0, 1)
DOWN = (0, -1)

# What a player may tell at a move of part 0 of LINKED that breaks it.
BREAKING = (
    None, True, 0, "", "ab", [], [(0, 1)], {}, {0: 1}, (0, 1), (None,), ([0, 1],), ("01",), ((0,),), ((0, 1, 1),), ((),),
    ((3, 1),), ((-1, 1),), ((True, 1),), ((False, 1),), (("0", 1),), ((None, 1),),
    ((1, 1), (0, 1)), ((0, 1), (0, 1)), ((0, 1), (1, 1), (1, -1)),
    ((0, 0),), ((0, True),), ((0, "1"),), ((0, None),), ((0, (1,)),), ((0, 1), (1, 0)),
    ((2, 1),), ((0, 1), (2, 1)), ((0, 1), (1, 1), (2, 1)),
)


class RunTest(Refusals):
    def test_all_begins_at_noughts(self):
        self.same(run(BOOK, Scripted(()), ()), ((0, 0), (0, 0)))

    def test_states_behind_histories(self):
        player = Scripted((((0, 3),), (), ((0, -5), (1, 2)), ((1, 10 ** 900),)))
        history = ((0, 1), (2, -1), (2, -1), (1, -1), (1, -1))
        self.same(run(LINKED, player, history), ((1, -2, -2), (-2, 10 ** 900 + 2, 0)))
        self.same(run(history=history[:2], player=player, book=LINKED), ((1, 0, -1), (3, 0, 0)))

    def test_truths_below_nought(self):
        self.same(run(BOOK, halves(BOOK, (0, 0)), (DOWN,) * 7 + ((1, -1),) * 6), ((-7, -6), (-2, -1)))

    def test_players_of_another_form(self):
        self.same(run(BOOK, Follower(), (UP, UP, UP, DOWN, DOWN)), ((1, 0), (0, 0)))
        self.refused(Broken, 3, run, BOOK, Follower(), (UP, UP, (1, 1), (1, 1), UP))

    def test_what_a_move_is_broken_by(self):
        for told in BREAKING:
            with self.subTest(told):
                history = ((1, 1), (1, -1), UP, UP, (2, 1))
                player = Scripted(((), ((1, 4),), told, None))
                self.refused(Broken, 2, run, LINKED, player, history)
                self.assertEqual(player.calls, list(history[:3]))
                self.refused(Broken, 0, run, LINKED, Scripted((told,)), history[2:])

    def test_what_is_let(self):
        for told in ((), ((0, 1),), ((1, -9),), ((0, 10), (1, -10 ** 900))):
            with self.subTest(told):
                run(LINKED, Scripted((told,)), (UP,))
        run(LINKED, Scripted((((0, 1), (1, 2), (2, 3)),)), ((2, 1),))

    def test_links_go_from_the_part_that_moved(self):
        self.refused(Broken, 0, run, LINKED, Scripted((((0, 1),),)), ((1, 1),))
        self.refused(Broken, 0, run, LINKED, Scripted((((2, 1),),)), ((0, 1),))
        self.refused(Broken, 1, run, BOOK, Scripted(((), ((1, 1),))), (UP, UP))

    def test_each_move_is_asked_once_in_order(self):
        history = ((0, 1), (2, -1), (1, 1), (1, 1))
        player = Scripted((((0, 1),),))
        run(LINKED, player, history)
        self.assertEqual(player.calls, list(history))
        self.assertEqual(player.at, 0)

    def test_the_player_goes_on_from_where_it_stands(self):
        player = halves(BOOK, (1, 1))
        for _ in range(2):
            player.moved(0, 1)
        self.same(run(BOOK, player, (UP,)), ((1, 0), (0, 0)))
        self.same(run(BOOK, player, (DOWN,)), ((-1, 0), (-1, 0)))
        self.same(run(BOOK, player, (DOWN,)), ((-1, 0), (-1, 0)))

    def test_a_table_that_breaks_the_links(self):
        stay = ((), 0)
        player = table_player(BOOK, ((stay, stay, stay, (((0, 1), (1, 1)), 0)),))
        self.refused(Broken, 1, run, BOOK, player, (UP, (1, -1), (1, -1)))
        self.same(run(BOOK, player, (UP, (1, 1))), ((1, 1), (0, 0)))

    def test_errors_in_their_order(self):
        broken = Scripted((None,))
        self.refused(BadBook, -1, run, None, broken, None)
        self.refused(BadBook, (1, 0), run, ((4,), ((),)), broken, ((9, 1),))
        self.refused(BadHistory, -1, run, BOOK, broken, None)
        self.refused(BadHistory, 1, run, BOOK, broken, (UP, (2, 1)))
        self.assertEqual(broken.calls, [])
        self.refused(Broken, 0, run, BOOK, broken, (UP,))


class StraysTest(Refusals):
    def test_strays_of_parts(self):
        self.same(strays(BOOK, ((0, 0), (0, 0))), (0, 0))
        self.same(strays(BOOK, ((3, -3), (1, 0))), (1, 3))
        self.same(strays(state=((-10, 6), (-2, 1)), book=BOOK), (2, 4))
        big = 10 ** 900
        self.same(strays(BOOK, ((-big, big), (big, -big))), (5 * big, -11 * big))
        self.same(strays(LINKED, ((5, -7, 1), (-100, 200, 0))), (-405, 2007, -1))

    def test_strays_of_lines(self):
        state = ((5, -7, 1), (-100, 200, 0))
        self.same(stray(LINKED, (1, 1, 1), state), 1601)
        self.same(stray(LINKED, (-20, 0, 20), state), 8080)
        self.same(stray(state=state, line=(0, -1, 0), book=LINKED), -2007)
        self.same(stray(BOOK, (2, -1), ((-10, 6), (-2, 1))), 0)
        self.same(stray(BOOK, (-3, 2), ((10 ** 900, 0), (0, 0))), 3 * 10 ** 900)

    def test_errors_in_their_order(self):
        self.refused(BadBook, -1, strays, ((4,), ()), ((0,), (0,)))
        self.refused(BadBook, (0, 1), stray, ((4, 0), ((0,), (1,))), None, ((0, 0), (0, 0)))
        self.refused(BadLine, -1, stray, BOOK, (1,), ((0, 0), (0, 0)))
        self.refused(BadLine, 1, stray, BOOK, (1, 21), ((0, 0), (0, 0)))
        self.refused(BadLine, 0, stray, BOOK, (0, 0), ((0, 0), (0, 0)))


class WithinTest(Refusals):
    def test_none_where_no_part_strays_too_far(self):
        self.assertIsNone(within(BOOK, Scripted((None,)), (), 0))
        self.assertIsNone(within(BOOK, halves(BOOK, (1, 1)), (UP,) * 9 + ((1, -1),) * 9, 5))

    def test_the_first_move_behind_which_one_does(self):
        still = Scripted(())
        self.same(within(BOOK, still, (UP, DOWN, UP, UP, UP), 1), 3)
        self.same(within(BOOK, still, (DOWN, UP, DOWN, DOWN, DOWN), 1), 3)
        self.same(within(bound=1, history=(UP, (1, 1), (1, 1), UP), player=still, book=BOOK), 2)
        self.same(within(BOOK, Scripted(((), ((0, 1),))), ((1, 1), UP), 2), 1)

    def test_a_linked_part_may_stray_too_far(self):
        self.same(within(LINKED, Scripted((((1, 1),),)), (UP,), 9), 0)
        self.assertIsNone(within(LINKED, Scripted((((1, 1),),)), (UP,), 10))
        self.same(within(LINKED, Scripted((((1, -1),),)), (UP,), 9), 0)

    def test_a_stray_just_at_the_bound(self):
        still = Scripted(())
        for bound in (1, 2, 7):
            for move in (UP, DOWN):
                self.assertIsNone(within(BOOK, still, (move,) * bound, bound))
                self.same(within(BOOK, still, (move,) * (bound + 2), bound), bound)

    def test_the_least_and_the_greatest_bound(self):
        self.same(within(BOOK, Scripted(()), (UP, UP), 0), 0)
        self.assertIsNone(within(plain((1,)), halves(plain((1,)), (0,)), (UP,) * 20, 0))
        self.assertIsNone(within(BOOK, Scripted((((1, 1000),),)), ((1, 1), (1, -1)), 10000))
        self.same(within(BOOK, Scripted((((1, 1000),),)), ((1, 1), (1, -1), (1, -1)), 10000), 2)

    def test_bounds_that_are_none(self):
        broken = Scripted((None,))
        for bound in (-1, 10001, True, False, None, "1", (1,), 10 ** 900):
            with self.subTest(bound):
                self.refused(BadBound, 0, within, BOOK, broken, (UP,), bound)
                self.refused(BadBound, 0, within, BOOK, broken, (), bound)
        self.assertEqual(broken.calls, [])

    def test_errors_in_their_order(self):
        broken = Scripted((None,))
        self.refused(BadBook, -1, within, (), broken, None, -1)
        self.refused(BadHistory, -1, within, BOOK, broken, None, -1)
        self.refused(BadHistory, 0, within, BOOK, broken, (None,), -1)
        self.refused(BadBound, 0, within, BOOK, broken, (UP,), -1)
        self.refused(Broken, 0, within, BOOK, broken, (UP,), 1)

    def test_what_a_move_is_broken_by(self):
        for told in BREAKING:
            with self.subTest(told):
                player = Scripted(((), told))
                self.refused(Broken, 1, within, LINKED, player, ((1, 1), UP, UP), 50)
                self.assertEqual(player.calls, [(1, 1), UP])

    def test_a_broken_move_ahead_of_one_that_strays(self):
        player = Scripted(((), None, ((0, 9),)))
        self.refused(Broken, 1, within, BOOK, player, (UP,) * 3, 4)
        self.assertEqual(player.calls, [UP] * 2)

    def test_a_broken_move_behind_one_that_strays(self):
        player = Scripted(((), ((0, 9),), None))
        self.same(within(BOOK, player, (UP,) * 3, 4), 1)
        self.assertEqual(player.calls, [UP] * 2)

    def test_a_move_that_is_broken_and_strays(self):
        self.refused(Broken, 1, within, BOOK, Scripted(((), None)), (UP,) * 3, 1)
        self.refused(Broken, 0, within, BOOK, Scripted((((0, 9), (1, 9)),)), (UP,) * 3, 1)

    def test_the_player_stays_as_it_is(self):
        player = halves(BOOK, (0, 0))
        self.same(within(BOOK, player, (UP,) * 9, 1), 1)
        self.same(run(BOOK, player, (UP,) * 3), ((3, 0), (1, 0)))
