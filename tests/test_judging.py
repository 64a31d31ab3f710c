import random

from byhalves.books import made_book, plain
from byhalves.errors import BadBook, BadBound, BadHistories, BadHistory, BadLine, Broken
from byhalves.halves import halves
from byhalves.judging import judge, lines_off, spread
from byhalves.programs import program
from byhalves.runs import run, stray, strays, within
from players import Follower, Scripted, Still
from programming import part_names, some_publisher
from refusals import Refusals
from values import nested, some_book, some_halves, some_history, some_line, some_table, some_value

BOOK = ((4, 4), ((0,), (1,)))
LINKED = ((4, 10, 3), ((0, 1), (1,), (0, 1, 2)))
THREE = ((0, 1), (0, 1), (0, 1))
UP = (0, 1)

# What a player may tell at a move of part 0 of LINKED that is no changes at all.
NO_CHANGES = (
    None, True, False, 0, 1, 7, "", "ab", "01", [], [(0, 1)], [[0, 1]], {}, {0: 1}, {(0, 1)}, (0, 1), (None,),
    ([0, 1],),
    ("01",), ((0,),), ((0, 1, 1),), ((),), (((0, 1),),), ((3, 1),), ((-1, 1),), ((True, 1),), ((False, 1),),
    (("0", 1),),
    ((None, 1),), ((1, 1), (0, 1)), ((0, 1), (0, 1)), ((0, 1), (1, 1), (1, -1)), ((2, 1), (1, 1)), ((0, 0),),
    ((0, True),),
    ((0, "1"),), ((0, None),), ((0, (1,)),), ((0, 1), (1, 0)), ((2, 0),), ((2, 1), None), nested(1, 50),
    (nested(1, 48), 1),
    b"01", 1.5, ((0, 1.0),), object, Still(),
)


class JudgeTest(Refusals):
    def test_the_examples(self):
        player = halves(BOOK, (1, 1))
        self.assertIsNone(judge(BOOK, player, 2, THREE))
        self.same(judge(BOOK, player, 1, THREE), (1, "stray", 0))
        self.same(judge(history=THREE, bound=1, player=player, book=BOOK), (1, "stray", 0))

    def test_no_moves(self):
        self.assertIsNone(judge(BOOK, Scripted((None,)), 0, ()))

    def test_form(self):
        for wrong in NO_CHANGES:
            with self.subTest(wrong):
                player = Scripted(((), (), wrong, None))
                self.same(judge(LINKED, player, 50, ((1, 1), UP, UP, UP)), (2, "form", 0))
                self.assertEqual(player.calls, [(1, 1), UP, UP])
                self.same(judge(LINKED, Scripted((wrong,)), 50, ((2, -1),)), (0, "form", 2))

    def test_values_of_all_forms(self):
        chance = random.Random(39)
        found = {"form": 0, "rule": 0, None: 0}
        for _ in range(4000):
            value = some_value(chance)
            told = judge(LINKED, Scripted((value,)), 10000, (UP,))
            found[told and told[1]] += 1
            self.assertIn(told, ((0, "form", 0), (0, "rule", 2), None))
        self.assertGreater(found["form"], 3000)

    def test_rule(self):
        for changes, part in (
            (((2, 1),), 2), (((0, 1), (2, 1)), 2), (((0, 1), (1, 1), (2, -5)), 2),
        ):
            with self.subTest(changes):
                player = Scripted(((), changes))
                self.same(judge(LINKED, player, 10000, (UP, UP, UP)), (1, "rule", part))
                self.assertEqual(player.calls, [UP, UP])
        self.same(judge(LINKED, Scripted((((0, 1), (1, 1), (2, 1)),)), 10000, ((1, 1),)), (0, "rule", 0))
        self.same(judge(LINKED, Scripted((((1, 1), (2, 1)),)), 10000, ((1, 1),)), (0, "rule", 2))

    def test_stray(self):
        self.same(judge(BOOK, Still(), 2, THREE), (2, "stray", 0))
        self.same(judge(BOOK, Still(), 2, ((1, -1), (0, 1), (1, -1), (0, 1), (1, -1))), (4, "stray", 1))
        for bound in (0, 1, 5):
            self.assertIsNone(judge(BOOK, Still(), bound, (UP,) * bound))
            self.same(judge(BOOK, Still(), bound, (UP,) * (bound + 1)), (bound, "stray", 0))
        self.assertIsNone(judge(BOOK, Scripted((((0, 2500),),)), 10000, (UP, (1, 1))))
        self.same(judge(BOOK, Scripted((((1, 2500),),)), 10000, ((1, -1),)), (0, "stray", 1))
        self.same(judge(BOOK, Scripted((((0, 2501),),)), 10000, (UP,)), (0, "stray", 0))

    def test_the_first_part_that_strays(self):
        self.same(judge(LINKED, Scripted((((1, 1),),)), 5, (UP,)), (0, "stray", 1))
        self.same(judge(LINKED, Scripted((((0, -9), (1, 1)),)), 5, (UP,)), (0, "stray", 0))
        self.same(judge(LINKED, Scripted((((1, 1), (2, 9)),)), 5, ((2, 1),)), (0, "stray", 1))
        self.same(judge(LINKED, Scripted(()), 0, ((2, 1),)), (0, "stray", 2))

    def test_a_part_that_strays_and_did_not_change(self):
        # Part 0 is the one whose truth moved, part 2 the one that changed; both stray.
        self.same(judge(LINKED, Scripted(((), ((2, 9),))), 1, (UP, (2, -1))), (1, "stray", 2))
        self.same(judge(BOOK, Scripted(((), ((0, 1),))), 1, (UP, UP)), (1, "stray", 0))
        self.same(judge(LINKED, Scripted((((1, 1),), ((1, -1),))), 9, ((1, 1), UP)), None)
        self.same(judge(LINKED, Scripted((((1, 1),), ())), 9, ((1, -1), UP)), (0, "stray", 1))

    def test_form_ahead_of_rule_and_stray_at_one_move(self):
        self.same(judge(LINKED, Scripted((((2, 9), (0, 9)),)), 0, (UP,)), (0, "form", 0))
        self.same(judge(LINKED, Scripted((((0, 99), (2, 0)),)), 0, (UP,)), (0, "form", 0))
        self.same(judge(LINKED, Scripted((((0, 99), (3, 1)),)), 0, (UP,)), (0, "form", 0))

    def test_rule_ahead_of_stray_at_one_move(self):
        self.same(judge(LINKED, Scripted((((0, 99), (2, 1)),)), 0, (UP,)), (0, "rule", 2))

    def test_the_first_move_decides(self):
        self.same(judge(LINKED, Scripted(((), ((2, 1),), None)), 1, (UP, UP, UP)), (1, "rule", 2))
        self.same(judge(LINKED, Scripted(((), (), None)), 1, (UP, UP, UP)), (1, "stray", 0))
        self.same(judge(LINKED, Scripted(((), None, ((2, 1),))), 1, (UP, UP, UP)), (1, "form", 0))

    def test_the_player_stays_as_it_is(self):
        player = halves(BOOK, (1, 1))
        player.moved(0, 1)
        for _ in range(2):
            # A copy goes on from where the player stands: its first move shows part 0 one higher.
            self.same(judge(BOOK, player, 2, THREE), (0, "stray", 0))
        self.same(player.moved(0, 1), ((0, 1),))

    def test_a_program_at_a_fault(self):
        publisher = ((), (), (("show", ("moved",), ("div", ("num", 1), ("sub", ("num", 2), ("truth", ("moved",))))),))
        self.same(judge(BOOK, program(BOOK, ("ann", "bob"), publisher), 50, ((1, 1), (1, 1))), (1, "form", 1))

    def test_none_just_where_nothing_is_broken_and_within_tells_none(self):
        chance = random.Random(390)
        found = {"form": 0, "rule": 0, "stray": 0, None: 0}
        for _ in range(1500):
            book = some_book(chance, 3)
            player = chance.choice((
                Still(), Follower(), some_halves(chance, book), some_table(chance, book),
                some_table(chance, book, breaks=True),
                program(book, part_names(book), some_publisher(chance, book)),
            ))
            history = some_history(chance, book, 10)
            bound = chance.randint(0, 8)
            told = judge(book, player, bound, history)
            try:
                first, word = within(book, player, history, bound), "stray"
            except Broken as error:
                first, word = error.what, None
            with self.subTest(book, history=history, bound=bound):
                if first is None:
                    self.assertIsNone(told)
                else:
                    self.assertEqual(told[0], first)
                    self.assertEqual(told[1] == "stray", word == "stray")
                if told is not None and told[1] == "stray":
                    seen = strays(book, run(book, player, history[:first + 1]))
                    self.assertEqual(told[2], [abs(steps) > bound for steps in seen].index(True))
            found[told and told[1]] += 1
        self.assertGreater(min(found.values()), 30)

    def test_errors_in_their_order(self):
        player = Scripted((None,))
        self.refused(BadBook, -1, judge, None, player, None, None)
        self.refused(BadBook, (1, 1), judge, ((4, 4), ((0,), (0,))), player, None, None)
        for bound in (-1, 10001, True, False, None, "1", (1,), 10 ** 900):
            self.refused(BadBound, 0, judge, BOOK, player, bound, None)
            self.refused(BadBound, 0, judge, BOOK, player, bound, (UP, (2, 1)))
        self.refused(BadHistory, -1, judge, BOOK, player, 0, None)
        self.refused(BadHistory, 1, judge, BOOK, player, 10000, (UP, (2, 1)))
        self.assertEqual(player.calls, [])


class SpreadTest(Refusals):
    def by_words(self, book, line, player, histories):
        """The greatest and the least stray behind all beginnings, each of them played by itself."""
        beginnings = [()] + [history[:end] for history in histories for end in range(len(history) + 1)]
        told = [stray(book, line, run(book, player, beginning)) for beginning in beginnings]
        return max(told), min(told)

    def test_the_example(self):
        player = halves(BOOK, (1, 1))
        self.same(spread(BOOK, (1, 1), player, (THREE,)), (2, -1))
        self.same(spread(histories=(THREE,), player=player, line=(1, 1), book=BOOK), (2, -1))

    def test_no_histories_and_empty_ones(self):
        for histories in ((), ((),), ((), (), ())):
            self.same(spread(BOOK, (1, 1), Scripted((None,)), histories), (0, 0))

    def test_the_empty_beginning_counts(self):
        self.same(spread(BOOK, (1, 0), Still(), ((UP, UP),)), (0, -2))
        self.same(spread(BOOK, (1, 0), Still(), (((0, -1),),)), (1, 0))
        self.same(spread(BOOK, (-3, 0), Still(), (((0, -1),),)), (0, -3))

    def test_beginnings_count_not_only_ends(self):
        self.same(spread(BOOK, (1, 0), Still(), ((UP, UP, (0, -1), (0, -1)), ((0, -1), UP))), (1, -2))

    def test_several_histories_from_noughts(self):
        player = Scripted((((0, 1),), ((0, 1),), ((0, -5),)))
        self.same(spread(BOOK, (1, 1), player, ((UP,), (UP, UP), ((0, -1),))), (6, 0))
        self.assertEqual(player.calls, [UP, UP, UP, (0, -1)])
        self.assertEqual(player.at, 0)

    def test_against_runs(self):
        chance = random.Random(40)
        for _ in range(200):
            book = some_book(chance, 3)
            line = some_line(chance, book)
            player = chance.choice((Still(), some_halves(chance, book), some_table(chance, book)))
            histories = tuple(some_history(chance, book, 8) for _ in range(chance.randint(0, 3)))
            with self.subTest(book, line=line, histories=histories):
                self.same(spread(book, line, player, histories), self.by_words(book, line, player, histories))

    def test_broken(self):
        player = Scripted(((), (), None))
        two, three = (UP, UP), THREE
        self.refused(Broken, (0, 2), spread, BOOK, (1, 1), player, (three,))
        self.refused(Broken, (2, 2), spread, BOOK, (1, 1), player, (two, (), three, (*three, UP)))
        self.refused(Broken, (1, 0), spread, BOOK, (1, 1), Scripted((((1, 1),),)), ((), ((0, -1),), ((1, 1),)))
        self.same(spread(BOOK, (1, 1), Scripted((((1, 1),),)), ((), ((1, -1),))), (5, 0))

    def test_what_is_no_tuple(self):
        for wrong in (None, True, 0, "", "ab", [], [THREE], {}):
            with self.subTest(wrong):
                self.refused(BadHistories, -1, spread, BOOK, (1, 1), Still(), wrong)

    def test_what_is_no_history(self):
        for wrong in (None, 0, "", [], [UP], (UP, None), UP, (UP, (2, 1)), ((0, 0),), ((0, True),), nested(0, 48),
            (None,)):
            with self.subTest(wrong):
                player = Scripted((None,))
                self.refused(BadHistories, 0, spread, BOOK, (1, 1), player, (wrong,))
                self.refused(BadHistories, 2, spread, BOOK, (1, 1), player, (THREE, (), wrong, None))
                self.assertEqual(player.calls, [])

    def test_errors_in_their_order(self):
        player = Scripted((None,))
        self.refused(BadBook, -1, spread, None, None, player, None)
        self.refused(BadLine, -1, spread, BOOK, None, player, None)
        self.refused(BadLine, 1, spread, BOOK, (1, 21), player, None)
        self.refused(BadLine, 0, spread, BOOK, (0, 0), player, None)
        self.refused(BadHistories, -1, spread, BOOK, (1, 1), player, None)
        self.refused(BadHistories, 1, spread, BOOK, (1, 1), player, (THREE, None))
        self.refused(Broken, (0, 0), spread, BOOK, (1, 1), player, (THREE, THREE))


class LinesOffTest(Refusals):
    def test_the_example(self):
        player = halves(BOOK, (1, 1))
        self.same(lines_off(BOOK, ((1, 1), (0, -2)), player, THREE), ((2, -1), (0, 0)))
        self.same(lines_off(history=THREE, player=player, lines=((0, 1),), book=BOOK), ((0, 0),))

    def test_no_lines(self):
        player = Scripted(())
        self.same(lines_off(BOOK, (), player, THREE), ())
        self.assertEqual(player.calls, list(THREE))
        self.refused(Broken, 1, lines_off, BOOK, (), Scripted(((), None)), THREE)

    def test_no_moves(self):
        self.same(lines_off(BOOK, ((1, 1), (1, 1)), Scripted((None,)), ()), ((0, 0), (0, 0)))

    def test_the_empty_beginning_counts(self):
        self.same(lines_off(BOOK, ((1, 0), (-2, 0), (0, 3)), Still(), (UP, UP)), ((0, -2), (4, 0), (0, 0)))

    def test_each_as_spread_tells_it(self):
        chance = random.Random(401)
        for _ in range(200):
            book = made_book(some_book(chance, 4))
            lines = tuple(some_line(chance, book) for _ in range(chance.randint(0, 5)))
            player = chance.choice((Still(), some_halves(chance, book), some_table(chance, book)))
            history = some_history(chance, book)
            self.same(lines_off(book, lines, player, history),
                      tuple(spread(book, line, player, (history,)) for line in lines))

    def test_broken(self):
        self.refused(Broken, 2, lines_off, BOOK, ((1, 1),), Scripted(((), (), None)), (*THREE, UP))
        self.refused(Broken, 0, lines_off, BOOK, ((1, 1),), Scripted((((1, 1),),)), THREE)

    def test_wrong_lines(self):
        player = Scripted((None,))
        for wrong in (None, True, 0, "", "ab", [], [(1, 1)], {}):
            self.refused(BadLine, -1, lines_off, BOOK, wrong, player, None)
        for what, wrong in (
            (-1, None), (-1, 1), (-1, "ab"), (-1, ()), (-1, (1,)), (-1, (1, 1, 1)), (-1, [1, 1]), (0, (0, 0)),
            (0, (21, 0)),
            (0, (-21, None)), (1, (1, None)), (1, (1, True)), (0, (True, 1)), (1, (0, "1")), (1, (20, -21)),
            (-1, nested(1, 47)), (0, (nested(1, 47), 1)),
        ):
            with self.subTest(wrong):
                self.refused(BadLine, (0, what), lines_off, BOOK, (wrong,), player, None)
                self.refused(BadLine, (2, what), lines_off, BOOK, ((1, 1), (20, -20), wrong, None), player, None)

    def test_errors_in_their_order(self):
        player = Scripted((None,))
        self.refused(BadBook, -1, lines_off, None, None, player, None)
        self.refused(BadLine, -1, lines_off, BOOK, None, player, None)
        self.refused(BadHistory, -1, lines_off, BOOK, ((1, 1),), player, None)
        self.refused(BadHistory, 1, lines_off, BOOK, ((1, 1),), player, (UP, None))
        self.assertEqual(player.calls, [])

    def test_the_player_stays_as_it_is(self):
        player = halves(plain((2,)), (1,))
        for _ in range(2):
            self.same(lines_off(plain((2,)), ((1,),), player, (UP,)), ((1, 0),))
