import random

from byhalves.books import plain
from byhalves.errors import BadBook, BadNames, BadPublisher, TooMany
from byhalves.publishers import made_names, made_publisher
from refusals import Refusals
from values import nested, some_value

BOOK = ((4, 4), ((0,), (0, 1)))
NAMES = ("ann", "bob")
CELLS = (("c", -5), ("total", 0))
ROWS = (("r", 1), ("last", 1000000))

RESERVED = (
    "parts links cells rows show if else each moved it truth shown steps way mod not and or same linked line up down"
    " by spread bound rule"
).split()

NO_NAMES = (
    "", "abcdefghijklm", "a" * 13, "A", "aB", "Ann", "1a", "9", "a_b", "a b", " a", "a ", "a-b", "a.", "_a", "a\n", "\u00e4",
    "a\u00e9", "a\u00b2", "\u0663", "a\u0663", "a:", "", None, True, 0, 1, (), ("a",), ("ann",), *RESERVED,
)

ONE = ("num", 1)
MOVED = ("moved",)
IT = ("it",)
HOLDS = ("eq", ONE, ONE)
SET = ("set", "c", ONE)


def deep_number(deep, word="add", side=1):
    """A number that is so deep, on one side."""
    number = ("way",)
    for _ in range(deep - 1):
        number = (word, number, ONE) if side == 1 else (word, ONE, number)
    return number


def deep_condition(deep, word="not"):
    """A test that is so deep."""
    told = HOLDS
    for _ in range(deep - 1):
        told = {"not": ("not", told), "and": ("and", told, HOLDS), "or": ("or", HOLDS, told)}[word]
    return told


def deep_body(deep, last=(), word="if"):
    """A publisher's body in which a body lies so deep; last is what it holds."""
    body = last
    for _ in range(deep - 1):
        body = (("if", HOLDS, body, ()),) if word == "if" else (("if", HOLDS, (), body),)
    return body


class NamesTest(Refusals):
    def test_right_names(self):
        for names in (("a", "b"), ("abcdefghijkl", "a12345678901"), ("z0", "z9"), ("iff", "its"), ("part", "rules")):
            with self.subTest(names):
                self.same(made_names(BOOK, names), names)
                self.same(made_names(names=names, book=BOOK), names)
        self.same(made_names(plain((1,) * 6), tuple("abcdef")), tuple("abcdef"))
        for word in RESERVED:
            if len(word) < 12:
                self.same(made_names(BOOK, (word + "0", word + "x")), (word + "0", word + "x"))

    def test_every_sign(self):
        signs = "abcdefghijklmnopqrstuvwxyz0123456789"
        for code in range(0x250):
            sign = "".join(map(chr, (code,)))
            if sign in signs:
                made_names(BOOK, ("x" + sign, "y"))
            else:
                self.refused(BadNames, 0, made_names, BOOK, ("x" + sign, "y"))
            if sign in signs[:26]:
                made_names(BOOK, (sign, "ab"))
            else:
                self.refused(BadNames, 0, made_names, BOOK, (sign, "ab"))

    def test_no_tuple_of_as_many(self):
        for names in (None, True, 2, "ab", ["ann", "bob"], (), ("ann",), ("ann", "bob", "cy"), (("ann", "bob"),)):
            with self.subTest(names):
                self.refused(BadNames, -1, made_names, BOOK, names)

    def test_what_is_no_name(self):
        for wrong in NO_NAMES:
            with self.subTest(wrong):
                self.refused(BadNames, 0, made_names, BOOK, (wrong, "bob"))
                self.refused(BadNames, 1, made_names, BOOK, ("ann", wrong))
                self.refused(BadNames, 0, made_names, BOOK, (wrong, wrong))

    def test_a_name_that_stands_further_ahead(self):
        book = plain((1,) * 4)
        self.refused(BadNames, 1, made_names, book, ("a", "a", "b", "c"))
        self.refused(BadNames, 3, made_names, book, ("a", "b", "c", "a"))
        self.refused(BadNames, 2, made_names, book, ("a", "b", "b", "a"))

    def test_the_first_decides(self):
        book = plain((1,) * 4)
        self.refused(BadNames, 1, made_names, book, ("a", "", "a", None))
        self.refused(BadNames, 2, made_names, book, ("a", "b", "a", None))

    def test_values_of_all_forms(self):
        chance = random.Random(31)
        for _ in range(2000):
            # No piece of these values is a name.
            with self.assertRaises(BadNames):
                made_names(BOOK, some_value(chance))

    def test_the_book_ahead(self):
        self.refused(BadBook, -1, made_names, None, None)
        self.refused(BadBook, (1, 0), made_names, ((4, 4), ((1,), (1,))), ("ann", "bob"))


class PublisherTest(Refusals):
    def right(self, thing, names=NAMES, book=BOOK):
        self.assertIs(made_publisher(book, names, thing), thing)

    def wrong(self, what, thing):
        self.refused(BadPublisher, what, made_publisher, BOOK, NAMES, thing)

    def right_statement(self, statement):
        self.right((CELLS, ROWS, (statement,)))

    def wrong_statement(self, statement, within_each=False):
        """Bad at its place, wherever it stands."""
        if within_each:
            self.wrong((2, (0, 0, 0)), (CELLS, ROWS, (("each", (statement,)),)))
            return
        self.wrong((2, (0,)), (CELLS, ROWS, (statement,)))
        self.wrong((2, (2,)), (CELLS, ROWS, (SET, SET, statement, None)))
        self.wrong((2, (1, 1, 1)), (CELLS, ROWS, (SET, ("if", HOLDS, (SET,), (SET, statement)), None)))
        self.wrong((2, (0, 0, 0)), (CELLS, ROWS, (("if", HOLDS, (statement,), (None,)),)))


class RightTest(PublisherTest):
    def test_the_least(self):
        self.right(((), (), ()))
        self.same(made_publisher(thing=((), (), ()), names=NAMES, book=BOOK), ((), (), ()))

    def test_the_example_of_halves(self):
        doubled = ("add", ("mul", ("num", 2), ("truth", MOVED)), ("steps", MOVED))
        self.right(((), (), (("show", MOVED, ("div", doubled, ("mul", ("num", 2), ("steps", MOVED)))),)))

    def test_cells_and_rows(self):
        self.right((tuple(("c" + str(i), i) for i in range(8)), tuple(("r" + str(i), -i) for i in range(4)), ()))
        self.right(((("abcdefghijkl", 1000000), ("d", -1000000), ("e", 0)), (("f", 1000000), ("g", -1000000)), ()))

    def test_every_statement(self):
        for statement in (
            SET, ("set", "total", ("way",)), ("put", "r", MOVED, ONE), ("put", "last", ("part", 1), ("way",)),
            ("show", ("part", 0), ONE), ("show", MOVED, ("cell", "c")), ("if", HOLDS, (), ()),
            ("if", HOLDS, (SET,), (SET, SET)), ("each", ()), ("each", (("show", IT, ONE), ("put", "r", IT, ONE))),
            ("each", (("if", ("same", IT, MOVED), (("show", IT, ("truth", IT)),), ()),)), ("if", HOLDS, (("each", ()),), ()),
        ):
            with self.subTest(statement):
                self.right_statement(statement)

    def test_every_number(self):
        two = (ONE, ("way",))
        for number in (
            ("num", 0), ("num", 1000000), ("cell", "c"), ("cell", "total"), ("row", "r", MOVED), ("row", "last", ("part", 1)),
            ("truth", MOVED), ("shown", ("part", 0)), ("steps", ("part", 1)), ("way",),
            ("add", *two), ("sub", *two), ("mul", *two), ("div", *two), ("mod", *two),
        ):
            with self.subTest(number):
                self.right_statement(("set", "c", number))
                self.right_statement(("put", "r", MOVED, number))
                self.right_statement(("show", MOVED, number))
                self.right_statement(("if", ("less", number, ("sub", number, number)), (), ()))

    def test_every_condition(self):
        for told in (
            HOLDS, ("less", ONE, ("way",)), ("same", MOVED, ("part", 0)), ("linked", ("part", 1)), ("linked", MOVED),
            ("not", HOLDS), ("and", HOLDS, ("linked", MOVED)), ("or", ("not", HOLDS), HOLDS),
        ):
            with self.subTest(told):
                self.right_statement(("if", told, (), ()))

    def test_this_part_within_each(self):
        for number in (("truth", IT), ("shown", IT), ("steps", IT), ("row", "r", IT), ("add", ("truth", IT), ONE)):
            self.right_statement(("each", (("set", "c", number),)))
        for told in (("same", IT, IT), ("linked", IT), ("not", ("eq", ("truth", IT), ONE))):
            self.right_statement(("each", (("if", told, (("set", "c", ("truth", IT)),), (("show", IT, ONE),)),)))

    def test_thirty_statements(self):
        self.right((CELLS, (), (SET,) * 30))
        self.right((CELLS, (), (("each", (SET,) * 30), ("if", HOLDS, (SET,) * 30, (SET,) * 30))))


class KeptTest(PublisherTest):
    def test_no_triple(self):
        for thing in (None, True, 0, "abc", [(), (), ()], (), ((), ()), ((), (), (), ()), (((), (), ()),)):
            with self.subTest(thing):
                self.wrong((-1,), thing)

    def test_no_tuple_of_cells_or_rows(self):
        nine = tuple(("c" + str(i), 0) for i in range(9))
        for thing in (None, True, 0, "", "c", [], [("c", 1)], nine):
            with self.subTest(thing):
                self.wrong((0, -1), (thing, None, None))
                self.wrong((1, -1), ((), thing, None))
        self.wrong((1, -1), ((), nine[:5], None))
        self.right((nine[:8], (), ()))
        self.right(((), nine[:4], ()))

    def test_no_pair(self):
        for wrong in (None, True, 0, "c", "cd", (), ("d",), ("d", 1, 1), ["d", 1], (1, "d"), (("d", 1),)):
            with self.subTest(wrong):
                self.wrong((0, 0), ((wrong,), None, None))
                self.wrong((0, 2), ((*CELLS, wrong, None), None, None))
                self.wrong((1, 0), (CELLS, (wrong,), None))
                self.wrong((1, 2), (CELLS, (*ROWS, wrong, None), None))

    def test_no_name(self):
        for wrong in NO_NAMES:
            with self.subTest(wrong):
                self.wrong((0, 1), ((("c", 0), (wrong, 0)), None, None))
                self.wrong((1, 1), (CELLS, (("r", 0), (wrong, 0)), None))

    def test_starts(self):
        for wrong in (1000001, -1000001, True, False, None, "1", (1,), 10 ** 900):
            with self.subTest(wrong):
                self.wrong((0, 1), ((("c", 0), ("d", wrong)), None, None))
                self.wrong((1, 0), (CELLS, (("r", wrong),), None))

    def test_names_that_are_taken(self):
        self.wrong((0, 1), ((("c", 0), ("ann", 0)), None, None))
        self.wrong((0, 0), ((("bob", 0), ("ann", 0)), None, None))
        self.wrong((0, 2), ((("c", 0), ("d", 0), ("c", 1)), None, None))
        self.wrong((1, 0), ((), (("ann", 0),), None))
        self.wrong((1, 1), (CELLS, (("r", 0), ("total", 0)), None))
        self.wrong((1, 2), (CELLS, (("r", 0), ("s", 0), ("r", 0)), None))

    def test_the_first_decides(self):
        self.wrong((0, 1), ((("c", 0), None, ("c", 0), ("ann", 0)), None, None))
        self.wrong((1, 1), (CELLS, (("r", 0), ("r", None), None), None))

    def test_no_body(self):
        for thing in (None, True, 0, "", "ab", [], [SET], (SET,) * 31, (None,) * 31):
            with self.subTest(thing):
                self.wrong((2, (-1,)), (CELLS, ROWS, thing))


class StatementTest(PublisherTest):
    def test_no_statement(self):
        for wrong in (
            None, True, 0, 7, "", "set", (), ("set",), (None,), (0, 1), ("way",), ("num", 1), HOLDS, [*SET], (SET,),
            (("set",), "c", ONE), ("Set", "c", ONE), ("sets", "c", ONE), ("", "c", ONE), ("do", ()), (True, "c", ONE),
        ):
            with self.subTest(wrong):
                self.wrong_statement(wrong)

    def test_other_numbers_of_members(self):
        for right in (
            SET, ("put", "r", MOVED, ONE), ("show", MOVED, ONE), ("if", HOLDS, (), ()), ("each", ()),
        ):
            self.right_statement(right)
            self.wrong_statement(right[:-1])
            for more in ((), ONE, None):
                with self.subTest(right, more=more):
                    self.wrong_statement((*right, more))

    def test_names_of_no_cell_and_no_row(self):
        for wrong in ("d", "r", "ann", "", "C", "c ", None, True, 0, (), ("c",)):
            with self.subTest(wrong):
                self.wrong_statement(("set", wrong, ONE))
                self.wrong_statement(("set", "c", ("cell", wrong)))
        for wrong in ("s", "c", "ann", "", "R", None, True, 0, (), ("r",)):
            with self.subTest(wrong):
                self.wrong_statement(("put", wrong, MOVED, ONE))
                self.wrong_statement(("set", "c", ("row", wrong, MOVED)))

    def test_wrong_parts(self):
        for wrong in (
            None, True, 0, "moved", "ann", (), ("part",), ("part", 2), ("part", -1), ("part", True), ("part", False),
            ("part", "0"), ("part", None), ("part", 0, 0), ("part", (0,)), ("moved", 0), ("it", 0), IT, (0,), (MOVED,),
            ("way",), ["moved"], ("parts", 0), ("ann",), ("", 0), ("moved", ()),
        ):
            with self.subTest(wrong):
                self.wrong_statement(("show", wrong, ONE))
                self.wrong_statement(("put", "r", wrong, ONE))
                for number in (("truth", wrong), ("shown", wrong), ("steps", wrong), ("row", "r", wrong)):
                    self.wrong_statement(("set", "c", number))
                for told in (("same", wrong, MOVED), ("same", MOVED, wrong), ("linked", wrong)):
                    self.wrong_statement(("if", told, (), ()))
                if wrong != IT:
                    self.wrong_statement(("show", wrong, ONE), within_each=True)

    def test_the_part_of_an_each_outside_of_it(self):
        self.wrong((2, (1,)), (CELLS, ROWS, (("each", (("show", IT, ONE),)), ("show", IT, ONE))))
        self.wrong((2, (0, 0, 1)), (CELLS, ROWS, (("if", HOLDS, (("each", ()), ("set", "c", ("truth", IT))), ()),)))
        self.wrong((2, (0,)), (CELLS, ROWS, (("if", ("linked", IT), (("each", ()),), ()),)))

    def test_wrong_numbers(self):
        for wrong in (
            None, True, 0, 5, "1", "way", (), ("num",), ("num", -1), ("num", 1000001), ("num", True), ("num", False),
            ("num", "1"), ("num", None), ("num", (1,)), ("num", 1, 1), ("cell",), ("cell", "c", 1), ("cell", "r"),
            ("row",), ("row", "r"), ("row", "r", MOVED, 1), ("row", "c", MOVED), ("row", MOVED, "r"), ("truth",),
            ("truth", MOVED, MOVED), ("shown", 0), ("steps",), ("way", 1), ("way", ()), (1,), (ONE,), ["way"], HOLDS, MOVED,
            ("add",), ("add", ONE), ("add", ONE, ONE, ONE), ("sub", ONE, None), ("mul", None, ONE), ("div", 1, ONE),
            ("mod", ONE, ("num", -1)), ("neg", ONE), ("Add", ONE, ONE), ("add", ONE, ("add", ONE, ("num", True))),
            ("", ONE, ONE), (("add",), ONE, ONE),
        ):
            with self.subTest(wrong):
                self.wrong_statement(("set", "c", wrong))
                self.wrong_statement(("put", "r", MOVED, wrong))
                self.wrong_statement(("show", MOVED, wrong))
                self.wrong_statement(("if", ("eq", wrong, ONE), (), ()))
                self.wrong_statement(("if", ("less", ONE, wrong), (), ()))
                self.wrong_statement(("set", "c", ("add", wrong, ONE)))
                self.wrong_statement(("set", "c", ("mod", ONE, wrong)))
                self.wrong_statement(("set", "c", wrong), within_each=True)

    def test_wrong_conditions(self):
        for wrong in (
            None, True, False, 1, "eq", (), ("eq",), ("eq", ONE), ("eq", ONE, ONE, ONE), ("less", ONE, None), ("less", 1, ONE),
            ("same", MOVED), ("same", MOVED, MOVED, MOVED), ("linked",), ("linked", MOVED, MOVED), ("not",),
            ("not", HOLDS, HOLDS), ("not", ONE), ("not", True), ("and", HOLDS), ("and", HOLDS, None), ("or", None, HOLDS),
            ("or", HOLDS, HOLDS, HOLDS), ("xor", HOLDS, HOLDS), ("Eq", ONE, ONE), ONE, MOVED, [*HOLDS], (HOLDS,),
            ("and", HOLDS, ("not", ("eq", ONE, ("num", -1)))), ("same", ONE, ONE), ("eq", MOVED, MOVED),
        ):
            with self.subTest(wrong):
                self.wrong_statement(("if", wrong, (), ()))
                self.wrong_statement(("if", ("not", wrong), (), ()))
                self.wrong_statement(("if", ("or", HOLDS, wrong), (SET,), (SET,)))

    def test_wrong_bodies(self):
        for wrong in (None, True, 0, "", "set", [], [SET], (SET,) * 31, (None,) * 31):
            with self.subTest(wrong):
                self.wrong_statement(("if", HOLDS, wrong, ()))
                self.wrong_statement(("if", HOLDS, (), wrong))
                self.wrong_statement(("each", wrong))

    def test_values_of_all_forms(self):
        chance = random.Random(32)
        pieces = ("if", "each", "set", "show", "eq", "num", "c", 1, True, None, (), SET, HOLDS, ONE, MOVED, IT)
        rights = 0
        for _ in range(6000):
            statement = some_value(chance, 5, pieces)
            try:
                made_publisher(BOOK, NAMES, (CELLS, ROWS, (statement,)))
                rights += 1
            except BadPublisher as error:
                self.assertEqual(error.what[0], 2)
                self.assertEqual(error.what[1][0], 0)
        self.assertGreater(rights, 100)


class DepthTest(PublisherTest):
    def test_numbers(self):
        for word in ("add", "sub", "mul", "div", "mod"):
            for side in (1, 2):
                six, seven = deep_number(6, word, side), deep_number(7, word, side)
                with self.subTest(word, side=side):
                    for right, number in ((True, six), (False, seven), (False, deep_number(40, word, side))):
                        check = self.right_statement if right else self.wrong_statement
                        check(("set", "c", number))
                        check(("show", MOVED, number))
                        check(("put", "r", MOVED, number))
                        check(("if", ("eq", number, ONE), (), ()))
                        check(("if", ("and", ("less", ONE, number), HOLDS), (), ()))

    def test_each_other_number_is_one_deep(self):
        for leaf in (("row", "r", ("part", 1)), ("truth", MOVED), ("cell", "c"), ("num", 1000000)):
            number = leaf
            for _ in range(5):
                number = ("add", number, leaf)
            self.right_statement(("set", "c", number))
            self.wrong_statement(("set", "c", ("add", number, leaf)))

    def test_conditions(self):
        for word in ("not", "and", "or"):
            with self.subTest(word):
                self.right_statement(("if", deep_condition(6, word), (), ()))
                self.wrong_statement(("if", deep_condition(7, word), (), ()))
                self.wrong_statement(("if", deep_condition(40, word), (), ()))

    def test_numbers_in_conditions_have_a_depth_of_their_own(self):
        told = ("eq", deep_number(6), deep_number(6, "mod", 2))
        for _ in range(5):
            told = ("not", told)
        self.right_statement(("if", told, (), ()))
        told = ("less", ONE, deep_number(7))
        self.wrong_statement(("if", told, (), ()))

    def test_bodies(self):
        for word in ("if", "else"):
            self.right((CELLS, (), deep_body(6, (SET,) * 30, word)))
            self.right((CELLS, (), deep_body(6, (), word)))
        # The statement whose body would lie 7 deep is bad itself.
        self.wrong((2, (0, 0, 0, 0, 0, 0, 0, 0, 0, 0, 0)), (CELLS, (), deep_body(7)))
        self.wrong((2, (0, 1, 0, 1, 0, 1, 0, 1, 0, 1, 0)), (CELLS, (), deep_body(7, (), "else")))
        self.wrong((2, (0, 0, 0, 0, 0, 0, 0, 0, 0, 0, 1)), (CELLS, (), deep_body(6, (SET, ("each", ())))))
        self.right((CELLS, (), deep_body(5, (SET, ("each", ())))))
        self.right((CELLS, (), deep_body(5, (SET, ("if", HOLDS, (), ())))))
        self.wrong((2, (0, 0, 0, 0, 0, 0, 0, 0, 0, 0, 0)), (CELLS, (), deep_body(30)))

    def test_a_body_of_an_each_lies_deeper_too(self):
        self.right((CELLS, (), (("each", deep_body(5, (SET,))),)))
        self.wrong((2, (0, 0, 0, 0, 0, 0, 0, 0, 0, 0, 0)), (CELLS, (), (("each", deep_body(6)),)))

    def test_an_each_within_an_each(self):
        inner = ("each", ())
        self.wrong((2, (0, 0, 0)), (CELLS, ROWS, (("each", (inner,)),)))
        self.wrong((2, (0, 0, 1)), (CELLS, ROWS, (("each", (SET, inner)),)))
        self.wrong((2, (1, 0, 0, 1, 0)), (CELLS, ROWS, (SET, ("each", (("if", HOLDS, (), (inner,)),)))))
        self.wrong((2, (0, 0, 0, 0, 0)), (CELLS, ROWS, (("if", HOLDS, (("each", (inner,)),), ()),)))
        self.right((CELLS, ROWS, (inner, inner, ("if", HOLDS, (inner,), (inner, inner)))))


class OrderTest(PublisherTest):
    def test_a_statement_ahead_of_those_in_its_bodies(self):
        self.wrong((2, (0,)), (CELLS, ROWS, (("if", None, (None,), (None,)),)))
        self.wrong((2, (0,)), (CELLS, ROWS, (("if", HOLDS, (None,), None),)))
        self.wrong((2, (0,)), (CELLS, ROWS, (("if", HOLDS, (None,), (SET,) * 31),)))
        self.wrong((2, (0, 0, 0)), (CELLS, ROWS, (("if", HOLDS, (None,), (None,)), None)))
        self.wrong((2, (0, 1, 2)), (CELLS, ROWS, (("if", HOLDS, (SET,), (SET, SET, None)), None)))
        self.wrong((2, (0, 0, 0)), (CELLS, ROWS, (("each", (("each", (None,)),)),)))

    def test_places_within_bodies_of_bodies(self):
        inner = ("if", HOLDS, (SET, SET), (SET, ("each", (SET, SET, None))))
        self.wrong((2, (1, 0, 2, 1, 1, 0, 2)), (CELLS, ROWS, (SET, ("if", HOLDS, (SET, SET, inner), (None,)), None)))
        self.wrong((2, (1, 1, 0, 1, 1, 0, 2)), (CELLS, ROWS, (SET, ("if", HOLDS, (), (inner, None)))))

    def test_book_and_names_and_then_in_this_order(self):
        self.refused(BadBook, -1, made_publisher, None, None, None)
        self.refused(BadBook, (0, 0), made_publisher, ((0,), ((0,),)), None, None)
        self.refused(BadNames, -1, made_publisher, BOOK, None, None)
        self.refused(BadNames, 1, made_publisher, BOOK, ("ann", "ann"), None)
        self.wrong((-1,), None)
        self.wrong((0, -1), (None, None, None))
        self.wrong((0, 0), ((None,), None, None))
        self.wrong((1, -1), ((), None, None))
        self.wrong((1, 0), ((), (None,), None))
        self.wrong((2, (-1,)), ((), (), None))
        self.wrong((2, (0,)), ((), (), (None,)))


class ManyTest(PublisherTest):
    HUNDRED = (("if", HOLDS, (SET,) * 30, (SET,) * 30), ("each", (SET,) * 30)) + (SET,) * 8

    def many(self, body):
        self.refused(TooMany, 101, made_publisher, BOOK, NAMES, (CELLS, ROWS, body))

    def test_a_hundred(self):
        self.right((CELLS, ROWS, self.HUNDRED))
        self.right((CELLS, ROWS, (("if", HOLDS, (SET,) * 30, (SET,) * 30), ("if", HOLDS, (SET,) * 30, (SET,) * 8))))

    def test_the_next_one_whatever_it_is(self):
        for more in (SET, None, (), ("if", HOLDS, (None,), ()), "set"):
            with self.subTest(more):
                self.many((*self.HUNDRED, more))
                self.many((*self.HUNDRED, more, None))
        self.many((("if", HOLDS, (SET,) * 30, (SET,) * 30), ("if", HOLDS, (SET,) * 30, (SET,) * 9)))
        self.many((("if", HOLDS, (SET,) * 30, (SET,) * 30), ("if", HOLDS, (SET,) * 30, (SET,) * 8 + (None,))))

    def test_a_bad_one_ahead_of_it(self):
        self.wrong((2, (1, 0, 29)), (CELLS, ROWS, (self.HUNDRED[0], ("each", (SET,) * 29 + (None,))) + (SET,) * 20))
        # The hundredth is bad itself, as one of its bodies is none.
        bad = ("if", HOLDS, (SET,), None)
        self.wrong((2, (9,)), (CELLS, ROWS, (*self.HUNDRED[:9], bad, SET)))
        self.many((*self.HUNDRED[:9], ("if", HOLDS, (SET,), ()), SET))

    def test_the_statements_of_a_body_that_is_too_long_do_not_count(self):
        self.wrong((2, (0,)), (CELLS, ROWS, (("if", HOLDS, (SET,) * 200, ()),)))


class PiecesTest(PublisherTest):
    def test_deep_values(self):
        for wrong in (nested(None, 45), nested("add", 45), nested(SET, 40)):
            self.wrong((-1,), wrong)
            self.wrong((0, -1), (None, wrong, wrong))
            self.wrong((0, 0), (wrong, (), ()))
            self.wrong((1, 0), ((), wrong, ()))
            self.wrong((2, (0,)), ((), (), wrong))
            self.wrong_statement(("set", "c", wrong))
            self.wrong_statement(("show", wrong, ONE))
            self.wrong_statement(("if", wrong, (), ()))
            self.wrong((2, (0, 0, 0)), (CELLS, ROWS, (("each", wrong),)))
