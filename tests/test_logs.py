import random

from byhalves.books import plain
from byhalves.errors import BadBook, BadBound, BadHistory, BadLine, BadLog, Broken
from byhalves.halves import halves
from byhalves.judging import judge, lines_off
from byhalves.logs import audit, fits, log_of
from byhalves.programs import program
from byhalves.runs import run
from players import Scripted, Still
from programming import part_names, some_publisher
from refusals import Refusals
from values import nested, some_book, some_halves, some_history, some_line, some_table, some_value

BOOK = ((4, 4), ((0,), (1,)))
LINKED = ((4, 10, 3), ((0, 1), (1,), (0, 1, 2)))
UP = (0, 1)
THREE = (UP, UP, UP)
LOG = ((UP, ()), (UP, ((0, 1),)), (UP, ()))

NO_ENTRIES = (
    None, True, 0, "", "ab", [], [UP, ()], (), (UP,), (UP, (), ()), ((), UP), (None, ()), (UP, None), (UP, 0),
    (UP, "ab"),
    ([0, 1], ()), (UP, []), ((2, 1), ()), ((-1, 1), ()), ((0, 0), ()), ((0, 2), ()), ((True, 1), ()), ((0, True), ()),
    ((0, 1, 1), ()), ((0,), ()), (UP, (0, 1)), (UP, (None,)), (UP, ((0,),)), (UP, ((0, 1, 1),)), (UP, ((2, 1),)),
    (UP, ((-1, 1),)), (UP, ((True, 1),)), (UP, (("0", 1),)), (UP, ((0, 0),)), (UP, ((0, True),)), (UP, ((0, None),)),
    (UP, ((1, 1), (0, 1))), (UP, ((0, 1), (0, 1))), (UP, ((0, 1), (1, 0))), (UP, ([0, 1],)), (nested(0, 47), ()),
    (UP, nested(0, 47)),
)


class LogOfTest(Refusals):
    def test_the_example(self):
        player = halves(BOOK, (1, 1))
        self.same(log_of(BOOK, player, THREE), LOG)
        self.same(log_of(history=THREE, player=player, book=BOOK), LOG)

    def test_no_moves(self):
        self.same(log_of(BOOK, Scripted((None,)), ()), ())

    def test_what_is_told_at_each_move(self):
        history = (UP, (2, -1), (1, 1), UP)
        answers = (((0, 3), (1, -4)), (), ((1, 10 ** 900),), ())
        player = Scripted(answers)
        self.same(log_of(LINKED, player, history), tuple(zip(history, answers)))
        self.assertEqual(player.calls, list(history))

    def test_broken(self):
        for told in (None, [], ((0, 0),), ((2, 1),), ((1, 1), (0, 1)), ((0, 1), (2, 1)), 7, ((0, True),)):
            with self.subTest(told):
                player = Scripted(((), (), told, None))
                self.refused(Broken, 2, log_of, LINKED, player, (*THREE, UP))
                self.assertEqual(player.calls, list(THREE))
                self.refused(Broken, 0, log_of, LINKED, Scripted((told,)), THREE)

    def test_the_player_stays_as_it_is(self):
        player = halves(BOOK, (1, 1))
        for _ in range(2):
            self.same(log_of(BOOK, player, THREE), LOG)

    def test_errors_in_their_order(self):
        player = Scripted((None,))
        self.refused(BadBook, -1, log_of, None, player, None)
        self.refused(BadHistory, -1, log_of, BOOK, player, None)
        self.refused(BadHistory, 1, log_of, BOOK, player, (UP, (2, 1)))
        self.assertEqual(player.calls, [])


class AuditTest(Refusals):
    def by_words(self, book, lines, bound, log):
        """What [42] says, from each beginning by itself."""
        parts = range(len(book[0]))

        def behind(end):
            truths, shown = [0] * len(parts), [0] * len(parts)
            for (part, way), changes in log[:end]:
                truths[part] += way
                for changed, by in changes:
                    shown[changed] += by
            return tuple(truths), tuple(shown)

        states = [behind(end) for end in range(len(log) + 1)]
        strays = [[s * m - t for t, s, m in zip(*state, book[0])] for state in states]
        offs = [[sum(w * x for w, x in zip(line, each)) for each in strays] for line in lines]
        wrongs = []
        for index, ((part, _), changes) in enumerate(log):
            wrongs += [(index, "rule", changed) for changed, _ in changes if changed not in book[1][part]]
            wrongs += [(index, "stray", i) for i in parts if abs(strays[index + 1][i]) > bound]
        worst = tuple((max(each[i] for each in strays), min(each[i] for each in strays)) for i in parts)
        return states[-1], worst, tuple((max(each), min(each)) for each in offs), tuple(wrongs)

    def test_the_examples(self):
        self.same(audit(BOOK, ((1, 1),), 1, LOG), (((3, 0), (1, 0)), ((2, -1), (0, 0)), ((2, -1),), ((1, "stray", 0),)))
        told = (((0, 1), (1, 0)), ((4, 0), (0, -1)), ((3, 0),), ((0, "rule", 0),))
        self.same(audit(BOOK, ((1, 1),), 4, (((1, 1), ((0, 1),)),)), told)
        self.same(audit(log=(((1, 1), ((0, 1),)),), bound=4, lines=((1, 1),), book=BOOK), told)

    def test_no_entries_and_no_lines(self):
        self.same(audit(BOOK, (), 0, ()), (((0, 0), (0, 0)), ((0, 0), (0, 0)), (), ()))
        self.same(audit(BOOK, ((1, 1), (0, -3)), 0, ())[2], ((0, 0), (0, 0)))
        self.same(audit(BOOK, (), 2, LOG), (((3, 0), (1, 0)), ((2, -1), (0, 0)), (), ()))

    def test_wrongs_of_both_words_at_one_entry(self):
        log = (((1, 1), ((0, 2), (1, 1), (2, -5))),)
        told = ((0, "rule", 0), (0, "rule", 2), (0, "stray", 0), (0, "stray", 1), (0, "stray", 2))
        self.same(audit(LINKED, (), 7, log)[3], told)
        self.same(audit(LINKED, (), 8, log)[3], (*told[:2], *told[3:]))
        self.same(audit(LINKED, (), 15, log)[3], told[:2])

    def test_a_part_that_strays_on_and_on(self):
        log = ((UP, ((0, 1),)), ((1, 1), ()), ((1, -1), ((1, 1),)), (UP, ((0, -1),)), ((1, 1), ((1, -1),)))
        self.same(audit(BOOK, (), 2, log)[3], (
            (0, "stray", 0), (1, "stray", 0), (2, "stray", 0), (2, "stray", 1), (3, "stray", 1),
        ))

    def test_the_changes_are_taken_as_they_are(self):
        state, worst, _, _ = audit(BOOK, (), 10000, (((1, 1), ((0, 7), (1, -2))), ((1, 1), ((0, -10),))))
        self.same(state, ((0, 2), (-3, -2)))
        self.same(worst, ((28, -12), (0, -10)))

    def test_the_empty_beginning_counts(self):
        self.same(audit(plain((4,)), ((2,),), 9, ((UP, ((0, 2),)), (UP, ())))[1:3], (((7, 0),), ((14, 0),)))
        self.same(audit(plain((4,)), ((2,),), 9, ((UP, ((0, -1),)), (UP, ())))[1:3], (((0, -6),), ((0, -12),)))

    def test_bounds(self):
        log = ((UP, ((0, 2500),)), (UP, ((0, 1),)), ((1, 1), ((1, -2500),)))
        self.same(audit(BOOK, (), 10000, log)[3], ((1, "stray", 0), (2, "stray", 0), (2, "stray", 1)))
        self.same(audit(plain((1,)), (), 0, ((UP, ((0, 1),)), (UP, ()), (UP, ())))[3],
            ((1, "stray", 0), (2, "stray", 0)))
        for bound in (-1, 10001, True, False, None, "1", (), 10 ** 900):
            self.refused(BadBound, 0, audit, BOOK, (), bound, None)
            self.refused(BadBound, 0, audit, BOOK, ((1, 1),), bound, LOG)

    def test_against_the_words(self):
        chance = random.Random(42)
        rules = 0
        for _ in range(400):
            book = some_book(chance, 4)
            lines = tuple(some_line(chance, book) for _ in range(chance.randint(0, 3)))
            log = tuple(
                (move, tuple((i, chance.choice((-2, -1, 1, 2))) for i in range(len(book[0])) if chance.random() < 0.3))
                for move in some_history(chance, book)
            )
            bound = chance.randint(0, 12)
            told = audit(book, lines, bound, log)
            rules += sum(word == "rule" for _, word, _ in told[3])
            with self.subTest(book, lines=lines, bound=bound, log=log):
                self.same(told, self.by_words(book, lines, bound, log))
        self.assertGreater(rules, 100)

    def test_no_wrongs_just_where_the_judge_tells_none(self):
        chance = random.Random(421)
        found = {True: 0, False: 0}
        for _ in range(600):
            book = some_book(chance, 3)
            player = chance.choice((Still(), some_halves(chance, book), some_table(chance, book),
                                    program(book, part_names(book), some_publisher(chance, book))))
            history = some_history(chance, book, 8)
            bound = chance.randint(0, 8)
            try:
                log = log_of(book, player, history)
            except Broken as error:
                self.assertEqual(judge(book, player, 10000, history)[0], error.what)
                continue
            lines = tuple(some_line(chance, book) for _ in range(2))
            state, _, offs, wrongs = audit(book, lines, bound, log)
            self.same(state, run(book, player, history))
            self.same(offs, lines_off(book, lines, player, history))
            judged = judge(book, player, bound, history)
            self.assertEqual(wrongs == (), judged is None)
            if wrongs:
                self.same(wrongs[0], judged)
            found[wrongs == ()] += 1
        self.assertGreater(min(found.values()), 50)

    def test_wrong_logs(self):
        for wrong in (None, True, 0, "", "ab", [], [*LOG], {}):
            self.refused(BadLog, -1, audit, BOOK, (), 0, wrong)
        for wrong in NO_ENTRIES:
            with self.subTest(wrong):
                self.refused(BadLog, 0, audit, BOOK, (), 0, (wrong,))
                self.refused(BadLog, 2, audit, BOOK, (), 0, (*LOG[:2], wrong, None))

    def test_entries_whose_changes_the_rule_does_not_let_are_right(self):
        audit(BOOK, (), 0, (((1, -1), ((0, 1), (1, 10 ** 900))),))

    def test_errors_in_their_order(self):
        self.refused(BadBook, -1, audit, None, None, None, None)
        self.refused(BadLine, -1, audit, BOOK, None, None, None)
        self.refused(BadLine, (1, 0), audit, BOOK, ((1, 1), (0, 0)), None, None)
        self.refused(BadLine, (0, -1), audit, BOOK, (None,), None, None)
        self.refused(BadBound, 0, audit, BOOK, ((1, 1),), None, None)
        self.refused(BadLog, -1, audit, BOOK, ((1, 1),), 0, None)

    def test_values_of_all_forms(self):
        def plain_number(value):
            return type(value) is int

        def right_entry(value):
            if type(value) is not tuple or len(value) != 2 or any(type(each) is not tuple for each in value):
                return False
            move, changes = value
            if len(move) != 2 or not all(map(plain_number, move)) or move[0] not in (0, 1) or abs(move[1]) != 1:
                return False
            if any(type(each) is not tuple or len(each) != 2 or not all(map(plain_number, each)) for each in changes):
                return False
            return 0 not in [by for _, by in changes] and [i for i, _ in changes] in ([], [0], [1], [0, 1])

        chance = random.Random(422)
        right = 0
        for _ in range(6000):
            entries = [some_value(chance, 3) if chance.random() < 0.3 else (UP,
                some_value(chance, 2)) for _ in range(2)]
            value = tuple(entries[:chance.randint(0, 2)])
            wrongs = [index for index, entry in enumerate(value) if not right_entry(entry)]
            if wrongs:
                self.refused(BadLog, wrongs[0], audit, BOOK, (), 0, value)
            else:
                audit(BOOK, (), 0, value)
                right += value != ()
        self.assertGreater(right, 5)


class FitsTest(Refusals):
    def test_the_examples(self):
        player = halves(BOOK, (1, 1))
        self.assertIsNone(fits(BOOK, player, LOG))
        self.same(fits(BOOK, player, ((UP, ((0, 1),)),)), 0)
        self.same(fits(log=((UP, ((0, 1),)),), player=player, book=BOOK), 0)

    def test_no_entries(self):
        self.assertIsNone(fits(BOOK, Scripted((None,)), ()))

    def test_none_of_its_own_log(self):
        chance = random.Random(43)
        for _ in range(200):
            book = some_book(chance, 4)
            player = chance.choice((Still(), some_halves(chance, book), some_table(chance, book)))
            self.assertIsNone(fits(book, player, log_of(book, player, some_history(chance, book))))

    def test_the_first_entry_that_is_otherwise(self):
        answers = (((0, 1), (1, 2)), (), ((0, -3),))
        for index, others in (
            (0, ((0, 1),)), (0, ((0, 1), (1, 3))), (0, ()), (0, ((1, 2),)), (0, ((0, 1), (1, 2), (2, 1))),
            (1, ((0, 1),)), (2, ()), (2, ((0, 3),)), (2, ((1, -3),)), (2, ((0, -3), (1, 1))),
        ):
            with self.subTest(index, others=others):
                told = [*answers]
                told[index] = others
                player = Scripted(answers)
                self.same(fits(LINKED, player, tuple((UP, changes) for changes in (*told, ((0, 5),)))), index)
                self.assertEqual(player.calls, [UP] * (index + 1))

    def test_a_broken_move_even_if_the_entry_has_the_same(self):
        player = Scripted(((), ((2, 1),), None))
        self.same(fits(LINKED, player, ((UP, ()), (UP, ((2, 1),)), (UP, ()))), 1)
        self.assertEqual(player.calls, [UP, UP])
        self.same(fits(BOOK, Scripted((((0, 1),),)), (((1, 1), ((0, 1),)),)), 0)

    def test_a_broken_move_of_another_form(self):
        for told in (None, [], False, 0, ((0, 0),), ((1, 1), (0, 1)), [(0, 1)]):
            with self.subTest(told):
                self.same(fits(LINKED, Scripted(((), told)), ((UP, ()), (UP, ()), (UP, ()))), 1)

    def test_the_player_stays_as_it_is(self):
        player = halves(BOOK, (1, 1))
        for _ in range(2):
            self.assertIsNone(fits(BOOK, player, LOG))

    def test_errors_in_their_order(self):
        player = Scripted((None,))
        self.refused(BadBook, -1, fits, None, player, None)
        for wrong in (None, True, 0, "", "ab", [], [*LOG]):
            self.refused(BadLog, -1, fits, BOOK, player, wrong)
        for wrong in NO_ENTRIES:
            with self.subTest(wrong):
                self.refused(BadLog, 3, fits, BOOK, player, (*LOG, wrong, None))
        self.assertEqual(player.calls, [])
