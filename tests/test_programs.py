import random

from byhalves.books import plain
from byhalves.errors import BadBook, BadNames, BadPublisher, BadState, Broken, TooMany
from byhalves.halves import halves
from byhalves.programs import program, program_at
from byhalves.runs import run
from programming import Stepper, part_names, some_publisher
from refusals import Refusals
from values import nested, some_book, some_history, some_value

BOOK = ((4, 4), ((0,), (1,)))
NAMES = ("ann", "bob")
THREE = ((4, 6, 10), ((0, 1), (1,), (0, 1, 2)))
THREE_NAMES = ("ann", "bob", "cy")

MOVED = ("moved",)
IT = ("it",)
WAY = ("way",)
HALVES = ((), (), (("show", MOVED, ("div", ("add", ("mul", ("num", 2), ("truth", MOVED)), ("steps", MOVED)),
                                    ("mul", ("num", 2), ("steps", MOVED)))),))
MOST = 10 ** 12


def num(number):
    """An E that tells a number, also one below 0."""
    return ("num", number) if number >= 0 else ("sub", ("num", 0), ("num", -number))


def part(number):
    return ("part", number)


def shows(*body, cells=(), rows=()):
    return tuple(cells), tuple(rows), body


class ProgramCase(Refusals):
    def told_along(self, publisher, history, book=THREE, state=None):
        """What a player tells along a history, and its state behind that."""
        names = part_names(book)
        player = program(book, names, publisher) if state is None else program_at(book, names, publisher, state)
        return [player.moved(*move) for move in history], player.state()

    def shown(self, number, cells=(), rows=(), history=((0, 1),), state=None):
        """The number that is shown for part 1 of THREE behind a history."""
        publisher = shows(("show", part(1), number), cells=cells, rows=rows)
        return self.told_along(publisher, history, THREE, state)[1][1][1]

    def held(self, condition, move=(0, 1)):
        """Whether a test holds at a move, told by which of two bodies is done."""
        publisher = shows(("if", condition, (("show", part(0), num(1)),), (("show", part(0), num(2)),)))
        return {1: True, 2: False}[self.told_along(publisher, (move,))[1][1][0]]


class ExampleTest(ProgramCase):
    def test_the_example(self):
        player = program(BOOK, NAMES, HALVES)
        self.same([player.moved(0, 1) for _ in range(3)], [(), ((0, 1),), ()])
        self.same(player.state(), ((3, 0), (1, 0), (), ()))

    def test_it_does_what_halves_does(self):
        chance = random.Random(381)
        for _ in range(200):
            book = some_book(chance, 4)
            history = some_history(chance, book, 60)
            player = program(book, part_names(book), HALVES)
            self.same(run(book, player, history), run(book, halves(book, (1,) * len(book[0])), history))

    def test_arguments_by_name(self):
        player = program(names=NAMES, publisher=HALVES, book=BOOK)
        self.same(player.moved(way=-1, part=1), ())
        other = program_at(state=player.state(), publisher=HALVES, names=NAMES, book=BOOK)
        self.same(other.state(), ((0, -1), (0, 0), (), ()))


class FirstStateTest(ProgramCase):
    def test_noughts_and_starts(self):
        publisher = shows(cells=(("c", -5), ("d", 1000000)), rows=(("r", 7), ("s", -1000000)))
        player = program(THREE, THREE_NAMES, publisher)
        first = ((0, 0, 0), (0, 0, 0), (-5, 1000000), ((7, 7, 7), (-1000000,) * 3))
        self.same(player.state(), first)
        self.same(player.moved(2, -1), ())
        self.same(player.state(), ((0, 0, -1), *first[1:]))

    def test_the_least(self):
        player = program(plain((1,)), ("a",), ((), (), ()))
        self.same(player.state(), ((0,), (0,), (), ()))

    def test_as_many_as_there_can_be(self):
        cells = tuple((f"c{i}", i) for i in range(8))
        rows = tuple((f"r{i}", -i) for i in range(4))
        body = tuple(("set", f"c{i}", ("cell", f"c{7 - i}")) for i in range(8))
        told, state = self.told_along((cells, rows, body), ((0, 1),))
        self.same(told, [()])
        self.same(state[2:], ((7, 6, 5, 4, 4, 5, 6, 7), tuple((-i,) * 3 for i in range(4))))


class StatementTest(ProgramCase):
    def test_set(self):
        publisher = shows(("set", "c", ("add", ("cell", "c"), num(2))), cells=(("b", 1), ("c", -5), ("d", 3)))
        told, state = self.told_along(publisher, ((0, 1), (1, -1), (1, -1)))
        self.same(told, [(), (), ()])
        self.same(state, ((1, -2, 0), (0, 0, 0), (1, 1, 3), ()))

    def test_put(self):
        put = ("put", "r", MOVED, ("sub", ("row", "r", MOVED), ("row", "s", part(2))))
        other = ("put", "s", part(1), num(9))
        publisher = shows(put, other, rows=(("r", 1), ("s", 4)))
        told, state = self.told_along(publisher, ((2, 1), (2, 1), (0, -1)))
        self.same(told, [(), (), ()])
        self.same(state, ((-1, 0, 2), (0, 0, 0), (), ((-3, 1, -7), (4, 9, 4))))

    def test_show(self):
        publisher = shows(("show", MOVED, ("truth", MOVED)), ("show", part(2), num(-7)))
        told, state = self.told_along(publisher, ((2, 1), (1, 1), (1, -1)))
        self.same(told, [((2, -7),), ((1, 1),), ((1, -1),)])
        self.same(state, ((0, 0, 1), (0, 0, -7), (), ()))

    def test_if(self):
        body = ("if", ("eq", WAY, num(1)), (("set", "c", num(1)), ("set", "d", num(2))), (("set", "c", num(3)),))
        publisher = shows(body, cells=(("c", 0), ("d", 0)))
        self.same(self.told_along(publisher, ((0, 1),))[1][2], (1, 2))
        self.same(self.told_along(publisher, ((0, -1),))[1][2], (3, 0))

    def test_if_with_an_empty_body(self):
        publisher = shows(("if", ("eq", WAY, num(1)), (), (("set", "c", num(3)),)), cells=(("c", 0),))
        self.same(self.told_along(publisher, ((0, 1),))[1][2], (0,))
        publisher = shows(("if", ("eq", WAY, num(1)), (("set", "c", num(3)),), ()), cells=(("c", 0),))
        self.same(self.told_along(publisher, ((0, -1),))[1][2], (0,))

    def test_each_in_the_order_of_the_parts(self):
        # Each part is shown as the digits of the steps that were met so far.
        digits = ("add", ("mul", ("cell", "c"), num(100)), ("steps", IT))
        publisher = shows(("each", (("set", "c", digits), ("show", IT, ("cell", "c")))), cells=(("c", 0),))
        told, state = self.told_along(publisher, ((2, 1),))
        self.same(told, [((0, 4), (1, 406), (2, 40610))])
        self.same(state[2], (40610,))

    def test_each_tells_its_part_everywhere(self):
        inner = (
            ("put", "r", IT, ("add", ("truth", IT), ("shown", IT))),
            ("if", ("same", IT, MOVED), (("show", IT, ("row", "r", IT)),), (("show", IT, num(8)),)),
            ("if", ("linked", IT), (("set", "c", ("add", ("cell", "c"), num(1))),), ()),
        )
        publisher = shows(("each", inner), cells=(("c", 0),), rows=(("r", 5),))
        told, state = self.told_along(publisher, ((0, 1), (2, -1)))
        self.same(told, [((0, 1), (1, 8), (2, 8)), ((0, 7), (2, -1))])
        self.same(state, ((1, 0, -1), (8, 8, 7), (5,), ((2, 8, 7),)))

    def test_each_twice(self):
        add = ("each", (("put", "r", IT, ("add", ("row", "r", IT), num(1))),))
        self.same(self.told_along(shows(add, add, rows=(("r", 0),)), ((1, 1),))[1][3], ((2, 2, 2),))

    def test_no_statements(self):
        self.same(self.told_along(shows(), ((0, 1), (1, -1))), ([(), ()], ((1, -1, 0), (0, 0, 0), (), ())))


class NumberTest(ProgramCase):
    def test_what_is_read(self):
        kept = {"cells": (("c", -5),), "rows": (("r", 6),)}
        state = ((3, -8, 20), (11, -12, 13), (40,), ((50, 51, 52),))
        for number, first, later in (
            (("num", 0), 0, 0), (("num", 1000000), 1000000, 1000000), (("cell", "c"), -5, 40),
            (("row", "r", part(0)), 6, 50), (("row", "r", part(2)), 6, 52), (("row", "r", MOVED), 6, 52),
            (("truth", part(0)), 0, 3), (("truth", part(1)), 0, -8), (("truth", part(2)), -1, 19),
            (("truth", MOVED), -1, 19),
            (("shown", part(0)), 0, 11), (("shown", part(1)), 0, -12), (("shown", MOVED), 0, 13),
            (("steps", part(0)), 4, 4), (("steps", part(1)), 6, 6), (("steps", MOVED), 10, 10), (WAY, -1, -1),
        ):
            with self.subTest(number):
                self.same(self.shown(number, history=((2, -1),), **kept), first)
                self.same(self.shown(number, history=((2, -1),), state=state, **kept), later)

    def test_the_way(self):
        self.same(self.shown(WAY, history=((0, 1),)), 1)
        self.same(self.shown(WAY, history=((0, 1), (2, -1))), -1)

    def test_what_is_joined(self):
        for word, one, other, told in (
            ("add", 5, 3, 8), ("add", 5, -3, 2), ("sub", 5, 3, 2), ("sub", 3, 5, -2), ("sub", 3, -5, 8),
            ("mul", 5, 3, 15), ("mul", -5, 3, -15), ("mul", -5, -3, 15), ("mul", 0, -3, 0),
            ("div", 15, 4, 3), ("div", 16, 4, 4), ("div", 3, 4, 0), ("div", 0, 4, 0), ("div", 7, 1, 7),
            ("div", -1, 4, -1), ("div", -4, 4, -1), ("div", -5, 4, -2), ("div", -15, 4, -4), ("div", -16, 4, -4),
            ("mod", 15, 4, 3), ("mod", 16, 4, 0), ("mod", 3, 4, 3), ("mod", 0, 4, 0), ("mod", 7, 1, 0),
            ("mod", -1, 4, 3), ("mod", -4, 4, 0), ("mod", -5, 4, 3), ("mod", -15, 4, 1), ("mod", -7, 1, 0),
        ):
            with self.subTest(word, one=one, other=other):
                self.same(self.shown((word, num(one), num(other))), told)

    def test_the_order_of_what_is_joined(self):
        self.same(self.shown(("sub", ("div", num(9), num(2)), ("mod", num(2), num(9)))), 2)
        self.same(self.shown(("sub", ("sub", num(9), num(2)), num(4))), 3)
        self.same(self.shown(("sub", num(9), ("sub", num(2), num(4)))), 11)
        deep = num(1)
        for more in (5, 7, 11, 2, 3):
            deep = ("sub", ("num", more), deep)
        self.same(self.shown(deep), 3 - (2 - (11 - (7 - (5 - 1)))))


class ConditionTest(ProgramCase):
    def test_comparisons(self):
        for word, one, other, told in (
            ("eq", 1, 1, True), ("eq", 1, 2, False), ("eq", 2, 1, False), ("eq", -3, -3, True), ("eq", -3, 3, False),
            ("less", 1, 1, False), ("less", 1, 2, True), ("less", 2, 1, False), ("less", -3, 3, True),
            ("less", -3, -4, False),
        ):
            with self.subTest(word, one=one, other=other):
                self.assertIs(self.held((word, num(one), num(other))), told)

    def test_same(self):
        for one, other, told in (
            (part(0), part(0), True), (part(0), part(1), False), (MOVED, MOVED, True), (MOVED, part(2), True),
            (part(2), MOVED, True), (MOVED, part(1), False), (part(1), MOVED, False),
        ):
            with self.subTest(one, other=other):
                self.assertIs(self.held(("same", one, other), (2, 1)), told)

    def test_linked_goes_from_the_part_that_moved(self):
        for moved in range(3):
            for other in range(3):
                with self.subTest(moved, other=other):
                    self.assertIs(self.held(("linked", part(other)), (moved, 1)), other in THREE[1][moved])
            self.assertIs(self.held(("linked", MOVED), (moved, -1)), True)

    def test_not_and_or(self):
        yes, no = ("eq", num(1), num(1)), ("eq", num(1), num(2))
        self.assertIs(self.held(("not", yes)), False)
        self.assertIs(self.held(("not", no)), True)
        for one in (yes, no):
            for other in (yes, no):
                both = (one == yes, other == yes)
                self.assertIs(self.held(("and", one, other)), all(both))
                self.assertIs(self.held(("or", one, other)), any(both))
        self.assertIs(self.held(("not", ("or", ("and", yes, no), ("not", yes)))), True)


class AsItIsThenTest(ProgramCase):
    def test_what_is_set(self):
        publisher = shows(
            ("set", "c", ("add", ("cell", "c"), num(1))), ("set", "d", ("mul", ("cell", "c"), num(10))),
            ("set", "c", ("add", ("cell", "c"), ("cell", "d"))), ("show", MOVED, ("cell", "c")),
            cells=(("c", 1), ("d", 0)),
        )
        told, state = self.told_along(publisher, ((1, 1), (1, 1)))
        self.same(told, [((1, 22),), ((1, 231),)])
        self.same(state[2], (253, 230))

    def test_what_is_put(self):
        publisher = shows(
            ("put", "r", MOVED, num(5)), ("put", "r", part(1), ("add", ("row", "r", part(0)), num(1))),
            ("show", part(0), ("row", "r", part(1))), rows=(("r", 0),),
        )
        self.same(self.told_along(publisher, ((0, 1),)), ([((0, 6),)], ((1, 0, 0), (6, 0, 0), (), ((5, 6, 0),))))

    def test_what_is_shown(self):
        publisher = shows(
            ("show", part(0), num(3)), ("show", part(1), ("mul", ("shown", part(0)), num(2))),
            ("if", ("eq", ("shown", part(1)), num(6)), (("show", part(0), num(0)),), ()),
        )
        self.same(self.told_along(publisher, ((2, 1),)), ([((1, 6),)], ((0, 0, 1), (0, 6, 0), (), ())))

    def test_the_truth_behind_its_step(self):
        self.same(self.shown(("truth", MOVED), history=((0, 1),)), 1)
        self.same(self.shown(("truth", part(0)), history=((0, -1), (0, -1))), -2)
        self.same(self.shown(("truth", part(0)), history=((0, 1), (2, -1))), 1)
        self.same(self.told_along(shows(("if", ("eq", ("truth", MOVED), num(1)), (("show", MOVED, num(7)),), ())),
                                  ((0, 1),))[0], [((0, 7),)])


class ChangesTest(ProgramCase):
    def test_rising_whatever_the_order_of_the_statements(self):
        publisher = shows(("show", part(2), num(1)), ("show", part(0), num(-4)), ("show", part(1), num(2)))
        told, state = self.told_along(publisher, ((2, 1), (2, 1)))
        self.same(told, [((0, -4), (1, 2), (2, 1)), ()])

    def test_none_of_nought(self):
        publisher = shows(("show", part(0), num(9)), ("show", part(0), num(0)), ("show", part(1), ("truth", part(1))))
        self.same(self.told_along(publisher, ((2, 1), (1, 1), (2, 1)))[0], [(), ((1, 1),), ()])

    def test_the_number_behind_less_that_ahead(self):
        publisher = shows(("show", part(1), num(100)), ("show", part(1), ("mul", ("truth", MOVED), ("truth", MOVED))))
        self.same(self.told_along(publisher, ((0, 1), (0, 1), (0, 1), (0, -1)))[0],
                  [((1, 1),), ((1, 3),), ((1, 5),), ((1, -5),)])

    def test_those_outside_of_the_links_too(self):
        publisher = shows(("show", part(0), ("truth", part(1))), ("set", "c", ("add", ("cell", "c"), num(1))),
                          cells=(("c", 0),))
        player = program(THREE, THREE_NAMES, publisher)
        self.same(player.moved(1, 1), ((0, 1),))
        self.same(player.state(), ((0, 1, 0), (1, 0, 0), (1,), ()))
        self.same(player.moved(1, 1), ((0, 1),))
        self.same(player.state(), ((0, 2, 0), (2, 0, 0), (2,), ()))
        self.refused(Broken, 1, run, THREE, program(THREE, THREE_NAMES, publisher), ((0, 1), (1, 1), (1, 1)))


class CopyTest(ProgramCase):
    def test_a_copy_goes_on_alike_and_apart(self):
        publisher = shows(
            ("set", "c", ("add", ("cell", "c"), WAY)), ("put", "r", MOVED, ("cell", "c")),
            ("show", MOVED, ("add", ("row", "r", MOVED), ("truth", MOVED))), cells=(("c", 0),), rows=(("r", 0),),
        )
        player = program(THREE, THREE_NAMES, publisher)
        player.moved(0, 1)
        held = player.state()
        copied = player.copy()
        self.same(copied.state(), held)
        self.same(copied.moved(1, 1), ((1, 3),))
        self.same(copied.moved(1, 1), ((1, 2),))
        self.same(player.state(), held)
        self.same(held, ((1, 0, 0), (2, 0, 0), (1,), ((1, 0, 0),)))
        self.same(player.moved(1, 1), ((1, 3),))
        self.same(player.moved(0, -1), ((0, -1),))
        self.same(copied.state(), ((1, 2, 0), (2, 5, 0), (3,), ((1, 3, 0),)))
        again = copied.copy().copy()
        player.moved(1, 1)
        self.same(again.moved(2, -1), copied.moved(2, -1))
        self.same(again.state(), copied.state())

    def test_copies_made_on_the_way(self):
        chance = random.Random(382)
        for _ in range(150):
            book = some_book(chance, 3)
            publisher = some_publisher(chance, book, large=chance.random() < 0.5)
            player = program(book, part_names(book), publisher)
            for move in some_history(chance, book, 20):
                other = player.copy()
                third = program_at(book, part_names(book), publisher, player.state())
                told = player.moved(*move)
                self.same((other.moved(*move), other.state()), (told, player.state()))
                self.same((third.moved(*move), third.state()), (told, player.state()))


class StepperTest(ProgramCase):
    def test_along_histories(self):
        chance = random.Random(383)
        told, faults, outside = 0, 0, 0
        for _ in range(1000):
            book = some_book(chance, 4)
            publisher = some_publisher(chance, book, large=chance.random() < 0.4)
            player = program(book, part_names(book), publisher)
            stepper = Stepper(book, publisher)
            self.same(player.state(), stepper.state())
            for move in some_history(chance, book, 25):
                before = stepper.state()[1]
                place = stepper.step(*move)
                after = stepper.state()[1]
                changes = tuple((i, after[i] - before[i]) for i in range(len(after)) if after[i] != before[i])
                with self.subTest(book, publisher=publisher, move=move):
                    self.same(player.moved(*move), changes if place is None else None)
                    self.same(player.state(), stepper.state())
                told += bool(changes)
                faults += place is not None
                outside += any(i not in book[1][move[0]] for i, _ in changes)
        self.assertGreater(min(told, faults, outside), 300, (told, faults, outside))

    def test_long_and_deep_ones(self):
        chance = random.Random(384)
        for _ in range(40):
            book = some_book(chance, 6)
            publisher = some_publisher(chance, book, deep=6, most=6)
            player = program(book, part_names(book), publisher)
            stepper = Stepper(book, publisher)
            for move in some_history(chance, book, 25):
                place = stepper.step(*move)
                self.assertEqual(player.moved(*move) is None, place is not None)
                self.same(player.state(), stepper.state())


class ProgramAtTest(ProgramCase):
    PUBLISHER = shows(
        ("set", "c", ("add", ("cell", "c"), ("row", "r", MOVED))), ("put", "r", MOVED, ("truth", MOVED)),
        ("show", MOVED, ("add", ("shown", MOVED), ("cell", "c"))),
        cells=(("c", 1), ("d", 2)), rows=(("r", 3),),
    )
    STATE = ((5, -6, 7), (1, 2, 3), (10, 20), ((100, 200, 300),))

    def at(self, state):
        return program_at(THREE, THREE_NAMES, self.PUBLISHER, state)

    def wrong(self, state):
        self.refused(BadState, 0, self.at, state)

    def test_it_goes_on_from_the_state_that_is_told(self):
        player = program(THREE, THREE_NAMES, self.PUBLISHER)
        for move in ((0, 1), (2, -1), (0, 1), (1, 1)):
            other = self.at(player.state())
            self.same(other.state(), player.state())
            self.same(other.moved(*move), player.moved(*move))
            self.same(other.state(), player.state())

    def test_from_other_numbers(self):
        player = self.at(self.STATE)
        self.same(player.state(), self.STATE)
        self.same(player.moved(1, -1), ((1, 210),))
        self.same(player.state(), ((5, -7, 7), (1, 212, 3), (210, 20), ((100, -7, 300),)))
        self.same(self.at(self.STATE).copy().moved(0, 1), ((0, 110),))

    def test_numbers_as_large_as_can_be(self):
        for size in (MOST, -MOST):
            self.at(((0,) * 3, (size, 0, 0), (size, size), ((0, 0, size),)))
        for truth in (MOST + 1, -MOST - 2, 10 ** 900, -10 ** 900):
            player = self.at(((truth, 0, 0), (0,) * 3, (0, 0), ((0,) * 3,)))
            self.same(player.moved(1, 1), ())
            self.same(player.state()[0], (truth, 1, 0))
            # The truth itself is beyond what a number may be.
            self.assertIsNone(player.moved(0, 1))
            self.same(player.state()[0], (truth, 1, 0))

    def test_numbers_that_are_too_large(self):
        for size in (MOST + 1, -MOST - 1, 10 ** 900):
            self.wrong(((0,) * 3, (size, 0, 0), (0, 0), ((0,) * 3,)))
            self.wrong(((0,) * 3, (0, 0, size), (0, 0), ((0,) * 3,)))
            self.wrong(((0,) * 3, (0,) * 3, (0, size), ((0,) * 3,)))
            self.wrong(((0,) * 3, (0,) * 3, (0, 0), ((0, size, 0),)))

    def test_what_is_no_tuple_of_four(self):
        for wrong in (None, True, 0, "abcd", (), self.STATE[:3], (*self.STATE, ()), [*self.STATE], (self.STATE,), {}):
            with self.subTest(wrong):
                self.wrong(wrong)

    def test_tuples_of_other_lengths(self):
        for index, right in enumerate(self.STATE):
            for wrong in (right[:-1], (*right, right[-1]), (), None, 0, "abc", [*right], True):
                with self.subTest(index, wrong=wrong):
                    self.wrong((*self.STATE[:index], wrong, *self.STATE[index + 1:]))
        for wrong in ((), (1, 2), (1, 2, 3, 4), None, 5, "abc", [1, 2, 3]):
            with self.subTest(wrong):
                self.wrong((*self.STATE[:3], (wrong,)))

    def test_entries_that_are_no_numbers(self):
        for wrong in (True, False, None, "1", (1,), ()):
            with self.subTest(wrong):
                self.wrong(((0, wrong, 0), *self.STATE[1:]))
                self.wrong((self.STATE[0], (0, 0, wrong), *self.STATE[2:]))
                self.wrong((*self.STATE[:2], (wrong, 0), self.STATE[3]))
                self.wrong((*self.STATE[:3], ((0, wrong, 0),)))

    def test_as_many_rows_as_the_publisher_has(self):
        none = shows()
        player = program_at(THREE, THREE_NAMES, none, ((1, 2, 3), (4, 5, 6), (), ()))
        self.same(player.state(), ((1, 2, 3), (4, 5, 6), (), ()))
        self.refused(BadState, 0, program_at, THREE, THREE_NAMES, none, ((1, 2, 3), (4, 5, 6), (), ((0, 0, 0),)))
        self.refused(BadState, 0, program_at, THREE, THREE_NAMES, none, ((1, 2, 3), (4, 5, 6), (0,), ()))
        two = shows(rows=(("r", 0), ("s", 0)))
        self.refused(BadState, 0, program_at, THREE, THREE_NAMES, two, ((1, 2, 3), (4, 5, 6), (), ((0, 0, 0),)))
        self.refused(BadState, 0, program_at, THREE, THREE_NAMES, two, ((1, 2, 3), (4, 5, 6), (), ((0, 0, 0), (0, 0))))

    def test_values_of_all_forms(self):
        chance = random.Random(385)
        for _ in range(2000):
            self.wrong(some_value(chance, 5))
        self.wrong(nested(1, 49))
        self.wrong((nested(1, 48),) * 4)
        self.wrong(((0, 0, 0),) * 3300)


class ErrorsTest(ProgramCase):
    def test_book_and_names_and_publisher_in_this_order(self):
        for function, more in ((program, ()), (program_at, (None,))):
            with self.subTest(function):
                self.refused(BadBook, -1, function, None, None, None, *more)
                self.refused(BadBook, (0, 1), function, ((4, 0), ((0,), (1,))), None, None, *more)
                self.refused(BadNames, -1, function, BOOK, None, None, *more)
                self.refused(BadNames, 1, function, BOOK, ("ann", "ann"), None, *more)
                self.refused(BadPublisher, (-1,), function, BOOK, NAMES, None, *more)
                self.refused(BadPublisher, (2, (0,)), function, BOOK, NAMES, ((), (), (None,)), *more)
                self.refused(BadPublisher, (0, 0), function, BOOK, NAMES, ((("ann", 0),), (), ()), *more)
                self.refused(TooMany, 101, function, BOOK, NAMES, ((), (), (
                    ("if", ("eq", WAY, WAY), (("show", MOVED, WAY),) * 30, (("show", MOVED, WAY),) * 30),
                    ("each", (("show", MOVED, WAY),) * 30),
                    *((("show", MOVED, WAY),) * 9),
                )), *more)
        self.refused(BadState, 0, program_at, BOOK, NAMES, HALVES, None)
