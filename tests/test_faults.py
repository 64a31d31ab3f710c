import random

from byhalves.errors import BadBook, BadHistory, BadNames, BadPublisher, BadState, Broken
from byhalves.programs import program, program_at, told
from byhalves.runs import run
from programming import Stepper, part_names, some_publisher
from refusals import Refusals
from values import nested, some_book, some_history, some_value

BOOK = ((4, 4), ((0,), (1,)))
NAMES = ("ann", "bob")
MOVED = ("moved",)
IT = ("it",)
WAY = ("way",)
ONE = ("num", 1)
MILLION = ("num", 1000000)
YES = ("eq", ONE, ONE)
NO = ("eq", ONE, ("num", 2))
SET = ("set", "c", ONE)
CELLS = (("c", 5), ("big", 0))
ROWS = (("r", 7),)

# Just as much as a number can be, and one beyond.
MOST = ("mul", MILLION, MILLION)
BEYOND = ("add", MOST, ONE)
FAULT = ("div", ONE, ("num", 0))

HALVES_AND_FAULT = ((), (), (("show", MOVED, ("div", ("add", ("mul", ("num", 2), ("truth", MOVED)), ("steps", MOVED)),
                                              ("sub", WAY, ONE))),))


def below(number):
    return ("sub", ("num", 0), number)


FAULTS = (
    FAULT, ("mod", ONE, ("num", 0)), ("div", ONE, below(ONE)), ("mod", ONE, below(ONE)),
    ("div", ("num", 0), ("num", 0)),
    ("div", below(ONE), below(("num", 4))), BEYOND, below(BEYOND), ("sub", below(MOST), ONE), ("mul", MOST, ("num", 2)),
    ("mul", MOST, MILLION), ("add", MOST, MOST),
    # The whole would lie within.
    ("sub", BEYOND, ONE), ("sub", BEYOND, BEYOND), ("mul", BEYOND, ("num", 0)), ("mul", ("num", 0), BEYOND),
    ("div", ("mul", MOST, MILLION), MOST), ("mod", BEYOND, ("num", 7)), ("div", ONE, BEYOND),
    ("mul", FAULT, ("num", 0)),
    ("add", ("sub", below(MOST), ONE), ("num", 2)),
)
NO_FAULTS = (
    MOST, below(MOST), ("sub", BEYOND[1], ONE), ("add", below(MOST), ONE), ("div", MOST, ONE), ("mod", MOST, MOST),
    ("sub", MOST, MOST), ("add", MOST, below(MOST)), ("mul", ("num", 999999), MILLION), ("div", ("num", 0), ONE),
)


class FaultCase(Refusals):
    def player(self, *body, state=None):
        publisher = (CELLS, ROWS, body)
        if state is None:
            return program(BOOK, NAMES, publisher)
        return program_at(BOOK, NAMES, publisher, state)

    def faulty(self, *body):
        """A fault at each move; nothing of what stands ahead of it stays done."""
        ahead = (SET, ("put", "r", MOVED, ONE), ("show", MOVED, ("num", 9)), ("show", ("part", 1), ("num", 8)))
        state = ((3, -2), (1, 6), (11, 12), ((13, 14),))
        player = self.player(*ahead, *body, state=state)
        for _ in range(2):
            self.assertIsNone(player.moved(0, -1))
            self.same(player.state(), state)
        self.refused(Broken, 0, run, BOOK, player, ((0, 1),))

    def faultless(self, *body):
        player = self.player(*body)
        self.assertIsNotNone(player.moved(0, 1))
        self.same(player.state()[0], (1, 0))


class WhereTest(FaultCase):
    def test_in_what_is_set_and_put_and_shown(self):
        for number in FAULTS:
            with self.subTest(number):
                self.faulty(("set", "c", number))
                self.faulty(("put", "r", ("part", 1), number))
                self.faulty(("show", MOVED, number))
                self.faulty(SET, ("each", (("show", IT, number),)))

    def test_what_is_none(self):
        for number in NO_FAULTS:
            with self.subTest(number):
                self.faultless(("set", "c", number))
                self.faultless(("put", "r", ("part", 1), number))
                self.faultless(("if", ("less", number, number), (SET,), (SET,)))
        self.same(self.player(("set", "c", MOST), ("put", "r", MOVED, below(MOST))).moved(0, 1), ())

    def test_numbers_of_the_most_are_kept(self):
        player = self.player(("set", "c", MOST), ("put", "r", MOVED, below(MOST)), ("show", MOVED, ("row", "r", MOVED)))
        self.same(player.moved(0, 1), ((0, -10 ** 12),))
        self.same(player.state(), ((1, 0), (-10 ** 12, 0), (10 ** 12, 0), ((-10 ** 12, 7),)))
        self.faulty(("set", "big", MOST), ("set", "big", ("add", ("cell", "big"), ONE)))

    def test_in_each_test(self):
        for number in FAULTS:
            for told_there in (
                ("eq", number, ONE), ("eq", ONE, number), ("less", number, ONE), ("less", ONE, number),
                ("not", ("eq", number, ONE)),
                ("not", ("not", ("less", ONE, number))),
            ):
                with self.subTest(told_there):
                    self.faulty(("if", told_there, (), ()))
                    self.faulty(("if", ("and", told_there, YES), (), ()))
                    self.faulty(("if", ("or", told_there, NO), (), ()))

    def test_both_parts_are_always_looked_at(self):
        wrong = ("eq", FAULT, ONE)
        for condition in (
            ("and", NO, wrong), ("or", YES, wrong), ("and", wrong, NO), ("or", wrong, YES), ("eq", FAULT, FAULT),
            ("less", FAULT, FAULT), ("and", NO, ("and", NO, ("or", YES, wrong))), ("or", YES, ("not", wrong)),
        ):
            with self.subTest(condition):
                self.faulty(("if", condition, (SET,), (SET,)))
        self.faultless(("if", ("and", NO, NO), (), ()), ("if", ("or", YES, YES), (), ()))

    def test_in_bodies_that_are_done_alone(self):
        wrong = ("set", "c", FAULT)
        self.faulty(("if", YES, (wrong,), ()))
        self.faulty(("if", NO, (), (wrong,)))
        self.faulty(("if", YES, (SET, ("if", NO, (), (SET, wrong))), ()))
        self.faulty(("each", (("if", ("same", IT, ("part", 1)), (wrong,), ()),)))
        self.faultless(("if", YES, (), (wrong,)))
        self.faultless(("if", NO, (wrong,), ()))
        self.faultless(("if", NO, (("if", YES, (wrong,), ()),), ()))

    def test_numbers_that_are_read(self):
        state = ((10 ** 12 + 5, 0), (0, 0), (0, 0), ((0, 0),))
        for number in (("truth", ("part", 0)), ("sub", ("truth", ("part", 0)), MOST)):
            player = self.player(("set", "c", number), state=state)
            self.assertIsNone(player.moved(1, 1))
            self.same(player.state(), state)
        player = self.player(("set", "c", ("truth", MOVED)), state=state)
        self.same(player.moved(1, 1), ())
        player = self.player(("show", MOVED, ("truth", MOVED)), state=((10 ** 12 - 1, 0), *state[1:]))
        self.same(player.moved(0, 1), ((0, 10 ** 12),))
        self.assertIsNone(player.moved(0, 1))
        self.same(player.moved(0, -1), ((0, -1),))


class BehindAFaultTest(FaultCase):
    def test_the_next_move_goes_on_from_the_state_ahead(self):
        body = (
            ("set", "c", ("add", ("cell", "c"), ("num", 100))), ("show", MOVED, ("add", ("shown", MOVED), ONE)),
            ("put", "r", MOVED, ("add", ("row", "r", MOVED), ONE)), ("set", "big", ("div", ONE, ("add", WAY, ONE))),
        )
        player = self.player(*body)
        self.same(player.moved(0, 1), ((0, 1),))
        first = ((1, 0), (1, 0), (105, 0), ((8, 7),))
        self.same(player.state(), first)
        for _ in range(3):
            self.assertIsNone(player.moved(0, -1))
            self.same(player.state(), first)
            self.assertIsNone(player.moved(1, -1))
            self.same(player.state(), first)
        copied = player.copy()
        for one in (player, copied):
            self.same(one.moved(1, 1), ((1, 1),))
            self.same(one.state(), ((1, 1), (1, 1), (205, 0), ((8, 8),)))


class ToldTest(FaultCase):
    FIRST = ((0, 0), (0, 0), (5, 0), ((7, 7),))

    def told(self, *body, move=(0, 1), state=FIRST):
        return told(BOOK, NAMES, (CELLS, ROWS, body), state, move)

    def fault_at(self, place, *body, move=(0, 1), state=FIRST):
        self.same(self.told(*body, move=move, state=state), (state, ("fault", place)))

    def test_the_example(self):
        first = ((0, 0), (0, 0), (), ())
        self.same(told(BOOK, NAMES, HALVES_AND_FAULT, first, (0, 1)), (first, ("fault", (0,))))
        self.same(told(move=(0, 1), state=first, publisher=HALVES_AND_FAULT, names=NAMES, book=BOOK),
                  (first, ("fault", (0,))))

    def test_without_a_fault(self):
        self.same(self.told(), (((1, 0), *self.FIRST[1:]), None))
        state = ((3, -2), (1, 6), (11, 12), ((13, 14),))
        self.same(
            self.told(("set", "c", WAY), ("put", "r", MOVED, ("num", 3)), ("show", MOVED, ("cell", "c")),
                      move=(1, -1), state=state),
            (((3, -3), (1, -1), (-1, 12), ((13, 3),)), None),
        )

    def test_whatever_parts_it_changes(self):
        self.same(self.told(("show", ("part", 1), ("num", 4)))[0][1], (0, 4))
        self.assertIsNone(self.told(("show", ("part", 1), ("num", 4)))[1])

    def test_the_place_of_the_statement(self):
        wrong = ("set", "c", FAULT)
        self.fault_at((0,), wrong)
        self.fault_at((2,), SET, SET, wrong, SET, wrong)
        self.fault_at((1, 0, 0), SET, ("if", YES, (wrong,), (wrong,)))
        self.fault_at((1, 1, 2), SET, ("if", NO, (wrong,), (SET, SET, wrong)))
        self.fault_at((0, 0, 1), ("each", (SET, wrong)))
        self.fault_at((1, 0, 1, 1, 0, 0, 3), SET, ("if", YES,
            (SET, ("if", NO, (), (("each", (SET, SET, SET, wrong)),))), ()))
        self.fault_at((29,), *((SET,) * 29), wrong)

    def test_a_fault_in_a_test_is_that_of_its_if(self):
        condition = ("and", NO, ("eq", FAULT, ONE))
        wrong = ("set", "c", FAULT)
        self.fault_at((0,), ("if", condition, (wrong,), (wrong,)))
        self.fault_at((1, 0, 2), SET, ("each", (SET, SET, ("if", condition, (), ()))))
        self.fault_at((0, 1, 0), ("if", NO, (), (("if", ("not", condition), (SET,), (SET,)), wrong)))

    def test_the_first_in_the_order_in_which_they_are_done(self):
        # The second statement of the body is at fault for part 0, the first one for part 1 alone.
        first = ("if", ("same", IT, ("part", 1)), (("set", "c", FAULT),), ())
        second = ("if", ("same", IT, ("part", 0)), (("set", "c", FAULT),), ())
        self.fault_at((0, 0, 1, 0, 0), ("each", (first, second)))
        self.fault_at((0, 0, 0, 0, 0), ("each", (first, ("if", ("same", IT, MOVED), (), ()))), ("set", "c", FAULT))
        self.fault_at((0, 0, 0), ("each", (("set", "c", ("div", ONE, ("sub", ONE, ("truth", IT)))),)))
        self.fault_at((1, 0, 0), SET, ("each", (("set", "c", ("div", ONE, ("truth", IT))),)), move=(0, -1))

    def test_what_is_not_done_is_no_fault(self):
        self.same(self.told(("if", NO, (("set", "c", FAULT),), (SET,)))[1], None)

    def test_what_is_handed_in_stays(self):
        state = ((3, -2), (1, 6), (11, 12), ((13, 14),))
        after, wrong = self.told(("show", MOVED, FAULT), state=state)
        self.same((after, wrong), (state, ("fault", (0,))))
        self.told(("show", MOVED, ONE), ("put", "r", MOVED, ONE), state=state)
        self.same(state, ((3, -2), (1, 6), (11, 12), ((13, 14),)))

    def test_against_the_stepper(self):
        chance = random.Random(37)
        places = {}
        for _ in range(600):
            book = some_book(chance, 3)
            publisher = some_publisher(chance, book, large=chance.random() < 0.6, deep=4)
            stepper = Stepper(book, publisher)
            state = stepper.state()
            for move in some_history(chance, book, 6):
                place = stepper.step(*move)
                found = told(book, part_names(book), publisher, state, move)
                with self.subTest(book, publisher=publisher, move=move, state=state):
                    self.same(found, (stepper.state(), None if place is None else ("fault", place)))
                state = found[0]
                places[place] = places.get(place, 0) + 1
        self.assertGreater(len(places), 30)
        self.assertGreater(places[None], 300)


class ErrorsTest(FaultCase):
    def test_what_is_no_move(self):
        first = ((0, 0), (0, 0), (), ())
        for wrong in (
            None, True, 0, "01", (), (0,), (0, 1, 1), (2, 1), (-1, 1), (True, 1), (0, True), (0, 0), (0, 2), ("0", 1),
            [0, 1],
            ((0, 1),), (0, None), (0, (1,)), nested(0, 49),
        ):
            with self.subTest(wrong):
                self.refused(BadHistory, 0, told, BOOK, NAMES, HALVES_AND_FAULT, first, wrong)

    def test_the_state_ahead_of_the_move(self):
        for wrong in (None, (), ((0, 0), (0, 0), ()), ((0, 0), (0, 0), (0,), ()), ((0, 0), (0, True), (), ()),
                      ((0, 0), (0, 10 ** 12 + 1), (), ())):
            self.refused(BadState, 0, told, BOOK, NAMES, HALVES_AND_FAULT, wrong, None)
            self.refused(BadState, 0, told, BOOK, NAMES, HALVES_AND_FAULT, wrong, (0, 1))

    def test_in_their_order(self):
        self.refused(BadBook, -1, told, None, None, None, None, None)
        self.refused(BadNames, -1, told, BOOK, None, None, None, None)
        self.refused(BadPublisher, (-1,), told, BOOK, NAMES, None, None, None)
        self.refused(BadPublisher, (1, -1), told, BOOK, NAMES, ((), None, ()), None, None)

    def test_values_of_all_forms(self):
        chance = random.Random(371)
        first = ((0, 0), (0, 0), (), ())
        for _ in range(1000):
            value = some_value(chance)
            if value not in ((0, 1), (1, -1)):
                self.refused(BadHistory, 0, told, BOOK, NAMES, HALVES_AND_FAULT, first, value)
