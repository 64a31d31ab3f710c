"""Publishers are told; what else is told is tested beside what is read, in test_readbooks.py."""

import itertools
import random

from byhalves.errors import BadBook, BadNames, BadPublisher, TooMany
from byhalves.printer import print_publisher
from byhalves.reader import read_publisher
from programming import part_names, some_publisher
from refusals import Refusals
from values import some_book

BOOK = ((4, 4), ((0,), (1,)))
NAMES = ("ann", "bob")
ANN = ("part", 0)
BOB = ("part", 1)
MOVED = ("moved",)
IT = ("it",)
WAY = ("way",)
ONE = ("num", 1)
CELLS = (("c", -5), ("d", 0))
ROWS = (("r", 1), ("s", -1000000))
KEPT = "cells c -5, d 0; rows r 1, s -1000000;"
A, B, C = ("linked", ANN), ("linked", BOB), ("linked", MOVED)
SIGNS = {"add": "+", "sub": "-", "mul": "*", "div": "/", "mod": "mod"}


class PrinterCase(Refusals):
    def told(self, text, *body):
        """The text is told of a body, and read as it was."""
        publisher = (CELLS, ROWS, body)
        self.same(print_publisher(BOOK, NAMES, publisher), (KEPT + " " + text).rstrip())
        self.same(read_publisher(BOOK, NAMES, KEPT + text), publisher)

    def number(self, text, number):
        self.told("c := " + text, ("set", "c", number))
        self.told(f"if {text} < {text} {{}}", ("if", ("less", number, number), (), ()))

    def condition(self, text, condition):
        self.told("if " + text + " {}", ("if", condition, (), ()))


class WholeTest(PrinterCase):
    def test_the_example(self):
        s, t = B, ("eq", WAY, ONE)
        statement = ("if", ("and", ("or", s, t), ("not", ("and", s, t))), (),
                     (("set", "c", ("sub", ("cell", "c"), ("add", WAY, ONE))),))
        self.told("if { linked bob or way = 1 } and not { linked bob and way = 1 } {} else { c := c - (way + 1) }",
            statement)

    def test_the_texts_of_the_reader(self):
        for text in (
            "", "show moved := (2 * truth[moved] + steps[moved]) / (2 * steps[moved])",
            "cells c -5; rows r 1; each { if same it, moved { r[it] := c mod 2 } }",
        ):
            self.same(print_publisher(BOOK, NAMES, read_publisher(BOOK, NAMES, text)), text)

    def test_cells_and_rows(self):
        for publisher, text in (
            (((), (), ()), ""), (((("c", -5),), (), ()), "cells c -5;"),
            (((), (("r", 0), ("s", -1)), ()), "rows r 0, s -1;"),
            (((("c", 1), ("d", 1000000)), (("r", -1000000),), ()), "cells c 1, d 1000000; rows r -1000000;"),
            (((("c", 1),), (), (("set", "c", ONE),)), "cells c 1; c := 1"),
            (((), (("r", 1),), (("each", ()),)), "rows r 1; each {}"),
            (((), (), (("each", ()), ("each", ()))), "each {}; each {}"),
        ):
            with self.subTest(text):
                self.same(print_publisher(BOOK, NAMES, publisher), text)
                self.same(print_publisher(publisher=publisher, names=NAMES, book=BOOK), text)
                self.same(read_publisher(BOOK, NAMES, text), publisher)

    def test_errors_in_their_order(self):
        self.refused(BadBook, -1, print_publisher, None, None, None)
        self.refused(BadNames, 1, print_publisher, BOOK, ("ann", "ann"), None)
        self.refused(BadPublisher, (-1,), print_publisher, BOOK, NAMES, None)
        self.refused(BadPublisher, (2, (1,)), print_publisher, BOOK, NAMES, ((), (), (("each", ()), None)))
        self.refused(BadPublisher, (0, 0), print_publisher, BOOK, NAMES, ((("ann", 0),), (), ()))
        show = ("show", MOVED, ONE)
        many = (("if", A, (show,) * 30, (show,) * 30), ("each", (show,) * 30), *((show,) * 9))
        self.refused(TooMany, 101, print_publisher, BOOK, NAMES, ((), (), many))


class StatementTest(PrinterCase):
    def test_each_kind(self):
        self.told("")
        self.told("d := 1", ("set", "d", ONE))
        self.told("r[moved] := way", ("put", "r", MOVED, WAY))
        self.told("s[bob] := way", ("put", "s", BOB, WAY))
        self.told("show ann := 1; show moved := 1", ("show", ANN, ONE), ("show", MOVED, ONE))
        self.told("each {}", ("each", ()))
        self.told("each { r[it] := 1; show it := 1 }", ("each", (("put", "r", IT, ONE), ("show", IT, ONE))))

    def test_if(self):
        one, other = ("set", "c", ONE), ("set", "d", WAY)
        self.told("if linked ann {}", ("if", A, (), ()))
        self.told("if linked ann { c := 1 }", ("if", A, (one,), ()))
        self.told("if linked ann {} else { d := way }", ("if", A, (), (other,)))
        self.told("if linked ann { c := 1; d := way } else { d := way; c := 1 }", ("if", A, (one, other), (other, one)))
        self.told("if linked ann { if linked bob {} else { c := 1 } }; c := 1",
            ("if", A, (("if", B, (), (one,)),), ()), one)
        self.told("if linked ann { each { if linked it {} } } else { each {} }",
                  ("if", A, (("each", (("if", ("linked", IT), (), ()),)),), (("each", ()),)))


class NumberTest(PrinterCase):
    def test_what_is_not_joined(self):
        for text, number in (
            ("0", ("num", 0)), ("1000000", ("num", 1000000)), ("d", ("cell", "d")), ("s[ann]", ("row", "s", ANN)),
            ("r[moved]", ("row", "r", MOVED)), ("truth[bob]", ("truth", BOB)), ("shown[moved]", ("shown", MOVED)),
            ("steps[ann]", ("steps", ANN)), ("way", WAY),
        ):
            with self.subTest(text):
                self.number(text, number)

    def test_brackets_just_where_they_are_needed(self):
        left = {
            ("add", "add"): False, ("add", "mul"): False, ("mul", "add"): True, ("mul", "mul"): False,
        }
        right = {
            ("add", "add"): True, ("add", "mul"): False, ("mul", "add"): True, ("mul", "mul"): True,
        }
        level = {"add": "add", "sub": "add", "mul": "mul", "div": "mul", "mod": "mul"}
        for outer, inner in itertools.product(SIGNS, SIGNS):
            with self.subTest(outer, inner=inner):
                held = f"2 {SIGNS[inner]} 3"
                number = (inner, ("num", 2), ("num", 3))
                text = f"({held})" if left[level[outer], level[inner]] else held
                self.number(f"{text} {SIGNS[outer]} 1", (outer, number, ONE))
                text = f"({held})" if right[level[outer], level[inner]] else held
                self.number(f"1 {SIGNS[outer]} {text}", (outer, ONE, number))

    def test_what_is_not_joined_stands_without_brackets(self):
        for word, sign in SIGNS.items():
            for number, text in ((("row", "r", ANN), "r[ann]"), (("truth", MOVED), "truth[moved]"), (WAY, "way")):
                self.number(f"{text} {sign} {text}", (word, number, number))

    def test_deeper_ones(self):
        self.number("(c + 1) * (c - 1) - 7 mod (2 * 3)", (
            "sub", ("mul", ("add", ("cell", "c"), ONE), ("sub", ("cell", "c"), ONE)),
            ("mod", ("num", 7), ("mul", ("num", 2), ("num", 3))),
        ))
        self.number("1 - (1 - (1 - (1 - (1 - 1))))", (
            "sub", ONE, ("sub", ONE, ("sub", ONE, ("sub", ONE, ("sub", ONE, ONE)))),
        ))
        self.number("1 - 1 - 1 - 1 - 1 - 1", (
            "sub", ("sub", ("sub", ("sub", ("sub", ONE, ONE), ONE), ONE), ONE), ONE,
        ))


class ConditionTest(PrinterCase):
    def test_bare_ones(self):
        for text, condition in (
            ("1 = way", ("eq", ONE, WAY)), ("1 < 1 + 1", ("less", ONE, ("add", ONE, ONE))),
            ("same ann, moved", ("same", ANN, MOVED)),
            ("linked bob", B), ("1 + 1 = 1 * (1 - 1)", ("eq", ("add", ONE, ONE), ("mul", ONE, ("sub", ONE, ONE)))),
        ):
            with self.subTest(text):
                self.condition(text, condition)

    def test_brackets_just_where_they_are_needed(self):
        a, b, c = "linked ann", "linked bob", "linked moved"
        for text, condition in (
            (f"{a} or {b} or {c}", ("or", ("or", A, B), C)), (f"{a} or {{ {b} or {c} }}", ("or", A, ("or", B, C))),
            (f"{a} and {b} and {c}", ("and", ("and", A, B), C)),
            (f"{a} and {{ {b} and {c} }}", ("and", A, ("and", B, C))),
            (f"{a} and {b} or {c}", ("or", ("and", A, B), C)), (f"{a} or {b} and {c}", ("or", A, ("and", B, C))),
            (f"{{ {a} or {b} }} and {c}", ("and", ("or", A, B), C)),
            (f"{a} and {{ {b} or {c} }}", ("and", A, ("or", B, C))),
            (f"not {a}", ("not", A)), (f"not not {a}", ("not", ("not", A))),
            (f"not {{ {a} and {b} }}", ("not", ("and", A, B))),
            (f"not {{ {a} or {b} }}", ("not", ("or", A, B))), (f"not {a} and {b}", ("and", ("not", A), B)),
            (f"{a} and not {b}", ("and", A, ("not", B))), (f"not {a} or not {b}", ("or", ("not", A), ("not", B))),
            ("not 1 = 1", ("not", ("eq", ONE, ONE))), ("not same ann, bob", ("not", ("same", ANN, BOB))),
            ("1 < 1 and 1 = 1", ("and", ("less", ONE, ONE), ("eq", ONE, ONE))),
        ):
            with self.subTest(text):
                self.condition(text, condition)


class ReadTest(Refusals):
    def same_read(self, chance, **named):
        book = some_book(chance, 6)
        publisher = some_publisher(chance, book, **named)
        text = print_publisher(book, part_names(book), publisher)
        if len(text) <= 20000:
            self.same(read_publisher(book, part_names(book), text), publisher)
        return text

    def test_read_of_what_is_told(self):
        chance = random.Random(56)
        for _ in range(800):
            self.same_read(chance, large=chance.random() < 0.5)
        self.assertGreater(max(len(self.same_read(chance, deep=6, most=8)) for _ in range(60)), 3000)

    def test_the_deepest_ones(self):
        number = WAY
        for word in ("sub", "mul", "add", "mod", "sub"):
            number = (word, ONE, number)
        condition = ("less", number, number)
        for word in ("or", "not", "and", "or"):
            condition = (word, condition) if word == "not" else (word, A, condition)
        condition = ("not", condition)
        body = (("if", condition, (), ()),)
        for _ in range(4):
            body = (("if", condition, body, ()),)
        publisher = ((), (), body)
        text = print_publisher(BOOK, NAMES, publisher)
        self.same(read_publisher(BOOK, NAMES, text), publisher)

    def test_no_blank_too_many(self):
        chance = random.Random(561)
        for _ in range(200):
            text = self.same_read(chance)
            self.assertEqual(text, text.strip())
            for wrong in ("  ", " ;", " ,", " :,", " )", " [", " ]", "( ", "[ ", "{ }"):
                self.assertNotIn(wrong, text)
