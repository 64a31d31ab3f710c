import random
from fractions import Fraction

from byhalves.books import plain
from byhalves.errors import BadBook, BadLine, BadNames, BadState
from byhalves.reports import report
from byhalves.runs import stray
from programming import part_names
from refusals import Refusals
from values import nested, some_book, some_line, some_value

BOOK = ((4, 4), ((0,), (1,)))
NAMES = ("ann", "bob")


class ReportTest(Refusals):
    def test_the_examples(self):
        self.same(report(BOOK, NAMES, ((1, 1),), ((3, 0), (1, 0))), (
            "ann shown 1 true 3/4 off 1/4", "bob shown 0 true 0 off 0", "line 0: shown 1 true 3/4 off 1/4",
        ))
        told = report(state=((-10, 6), (-2, 1)), lines=((2, -1),), names=NAMES, book=BOOK)
        parts = ("ann shown -2 true -5/2 off 1/2", "bob shown 1 true 3/2 off -1/2")
        self.same(told, (*parts, "line 0: shown -5 true -13/2 off 3/2"))
        told = report(((4, 6), ((0,), (1,))), NAMES, ((2, -1),), ((-10, 6), (-2, 1)))
        self.same(told[2], "line 0: off 4 steps")
        self.same(told[:2], (parts[0], "bob shown 1 true 1 off 0"))

    def test_numbers(self):
        for steps, truth, shown, told in (
            (1, 0, 0, "a shown 0 true 0 off 0"), (1, -7, -7, "a shown -7 true -7 off 0"),
            (1, 3, 5, "a shown 5 true 3 off 2"),
            (6, 4, 1, "a shown 1 true 2/3 off 1/3"), (6, -4, 0, "a shown 0 true -2/3 off 2/3"),
            (6, 12, 3, "a shown 3 true 2 off 1"),
            (6, 3, 0, "a shown 0 true 1/2 off -1/2"), (6, 5, 0, "a shown 0 true 5/6 off -5/6"),
            (6, -12, 0, "a shown 0 true -2 off 2"),
            (60, 45, -1, "a shown -1 true 3/4 off -7/4"), (60, -45, 1, "a shown 1 true -3/4 off 7/4"),
            (60, 1, 0, "a shown 0 true 1/60 off -1/60"), (2, 10 ** 900, 0,
            f"a shown 0 true {5 * 10 ** 899} off -{5 * 10 ** 899}"),
        ):
            with self.subTest(steps, truth=truth, shown=shown):
                self.same(report(plain((steps,)), ("a",), (), ((truth,), (shown,))), (told,))

    def test_no_lines(self):
        self.same(report(BOOK, NAMES, (), ((0, 0), (0, 0))), ("ann shown 0 true 0 off 0", "bob shown 0 true 0 off 0"))

    def test_lines_are_numbered_from_nought(self):
        told = report(BOOK, NAMES, ((1, 0), (0, 1), (1, 0), (-20, 20)), ((1, 2), (0, 0)))
        self.same(told[2:], (
            "line 0: shown 0 true 1/4 off -1/4", "line 1: shown 0 true 1/2 off -1/2",
            "line 2: shown 0 true 1/4 off -1/4",
            "line 3: shown 0 true 5 off -5",
        ))
        self.assertTrue(report(BOOK, NAMES, ((1, 1),) * 12, ((0, 0), (0, 0)))[-1].startswith("line 11: "))

    def test_steps_that_are_not_alike(self):
        for steps in ((4, 4, 5), (5, 4, 4), (4, 5, 4)):
            book = plain(steps)
            for line in ((1, 1, 0), (0, 0, 3)):
                state = ((1, 2, 3), (1, 0, -1))
                told = report(book, ("a", "b", "c"), (line,), state)[3]
                self.same(told, f"line 0: off {stray(book, line, state)} steps")
        self.same(report(plain((1, 2)), NAMES, ((1, 0), (0, 1)), ((1, -1), (0, 0)))[2:],
                  ("line 0: off -1 steps", "line 1: off 1 steps"))
        self.same(report(plain((1, 2)), NAMES, ((1, 0),), ((0, 5), (0, 0)))[2:], ("line 0: off 0 steps",))

    def test_against_fractions(self):
        chance = random.Random(47)
        for _ in range(400):
            book = some_book(chance, 6, steps=chance.choice(((6,), (1, 4, 10, 60))))
            lines = tuple(some_line(chance, book) for _ in range(chance.randint(0, 3)))
            many = len(book[0])
            truths = tuple(chance.randint(-70, 70) for _ in range(many))
            shown = tuple(chance.randint(-9, 9) for _ in range(many))
            names = part_names(book)
            exact = [Fraction(truth, steps) for truth, steps in zip(truths, book[0])]
            expected = [f"{n} shown {s} true {t} off {s - t}" for n, s, t in zip(names, shown, exact)]
            for k, line in enumerate(lines):
                units, true = (sum(w * x for w, x in zip(line, each)) for each in (shown, exact))
                if len(set(book[0])) == 1:
                    expected.append(f"line {k}: shown {units} true {true} off {units - true}")
                else:
                    off = sum(w * (s * m - t) for w, s, t, m in zip(line, shown, truths, book[0]))
                    expected.append(f"line {k}: off {off} steps")
            self.same(report(book, names, lines, (truths, shown)), tuple(expected))

    def test_errors_in_their_order(self):
        self.refused(BadBook, -1, report, None, None, None, None)
        self.refused(BadNames, -1, report, BOOK, None, None, None)
        self.refused(BadNames, 1, report, BOOK, ("ann", "ann"), None, None)
        for wrong in (None, 0, "ab", [], [(1, 1)]):
            self.refused(BadLine, -1, report, BOOK, NAMES, wrong, None)
        self.refused(BadLine, (0, -1), report, BOOK, NAMES, (None, (0, 0)), None)
        self.refused(BadLine, (1, 0), report, BOOK, NAMES, ((1, 1), (0, 0), None), None)
        self.refused(BadLine, (2, 1), report, BOOK, NAMES, ((1, 1), (1, 1), (1, 21)), None)
        self.refused(BadState, 0, report, BOOK, NAMES, ((1, 1),), None)

    def test_what_is_no_state(self):
        right = (3, 0)
        for wrong in (
            None, True, 0, "ab", (), (right,), (right, right, right), [right, right], (right, right, (), ()),
            (right, [3, 0]),
            ([3, 0], right), (None, right), (right, None), (right, "ab"), ("ab", right), (right, (3,)), ((3,), right),
            (right, (3, 0, 0)), ((3, 0, 0), right), ((), ()), (right, (3, True)), ((True, 0), right),
            ((3, None), right),
            (right, ("3", 0)), (right, ((3,), 0)), 3, ((right, right),), (nested(0, 48), right), ((3, 0.0), right),
        ):
            with self.subTest(wrong):
                self.refused(BadState, 0, report, BOOK, NAMES, (), wrong)

    def test_values_of_all_forms(self):
        chance = random.Random(471)
        for _ in range(2000):
            value = some_value(chance)
            if not (isinstance(value, tuple) and all(each in ((0, 1), (1, -1)) for each in value)):
                self.refused(BadState, 0, report, BOOK, NAMES, (), value)
