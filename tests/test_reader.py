import random
import re

from byhalves.errors import BadNumber, BadText, NoName, Refused, TooDeep, TooMany, Twice
from byhalves.printer import print_publisher
from byhalves.publishers import made_publisher
from byhalves.reader import read_publisher
from programming import part_names, some_publisher
from refusals import TextRefusals
from values import some_book

BOOK = ((4, 4), ((0,), (1,)))
NAMES = ("ann", "bob")
ANN = ("part", 0)
BOB = ("part", 1)
MOVED = ("moved",)
IT = ("it",)
WAY = ("way",)
ONE = ("num", 1)
YES = ("eq", ONE, ONE)
KEPT = "cells c 0, d 5; rows r 0, s -1; "
CELLS = (("c", 0), ("d", 5))
ROWS = (("r", 0), ("s", -1))
HALVES = ((), (), (("show", MOVED, ("div", ("add", ("mul", ("num", 2), ("truth", MOVED)), ("steps", MOVED)),
                                    ("mul", ("num", 2), ("steps", MOVED)))),))


def num(number):
    return ("num", number)


class ReaderCase(TextRefusals):
    def read(self, text):
        return read_publisher(BOOK, NAMES, text)

    def body(self, text):
        """The body of a publisher with the cells c and d, and the rows r and s."""
        cells, rows, body = self.read(KEPT + text)
        self.same((cells, rows), (CELLS, ROWS))
        made_publisher(BOOK, NAMES, (cells, rows, body))
        return body

    def number(self, text):
        ((word, name, number),) = self.body("c := " + text)
        self.same((word, name), ("set", "c"))
        return number

    def condition(self, text):
        ((word, condition, *bodies),) = self.body("if " + text + " {}")
        self.same((word, *bodies), ("if", (), ()))
        return condition

    def wrong_body(self, error, *texts):
        self.wrongs(error, *[KEPT + text for text in texts])

    def wrong_number(self, error, *texts):
        """Wrong wherever a number is due."""
        self.wrong_body(error, *["c := " + text for text in texts])
        self.wrong_body(error, *["r[ann] := " + text for text in texts])
        self.wrong_body(error, *["if way = " + text for text in texts])

    def wrong_condition(self, error, *texts):
        self.wrong_body(error, *["if " + text for text in texts])


class ExampleTest(ReaderCase):
    def test_the_examples(self):
        self.same(self.read(""), ((), (), ()))
        self.same(self.read("show moved := (2 * truth[moved] + steps[moved]) / (2 * steps[moved])"), HALVES)
        inner = ("if", ("same", IT, MOVED), (("put", "r", IT, ("mod", ("cell", "c"), num(2))),), ())
        self.same(self.read("cells c -5; rows r 1; each { if same it, moved { r[it] := c mod 2 } }"),
                  ((("c", -5),), (("r", 1),), (("each", (inner,)),)))
        self.same(read_publisher(text="", names=NAMES, book=BOOK), ((), (), ()))

    def test_the_examples_of_what_is_refused(self):
        self.wrong(NoName, "show |it := 1")
        self.wrong(Twice, "cells |ann 0;")
        self.wrong(NoName, "show ann := |bob")
        self.wrong(TooDeep, "each { |each {} }")
        self.wrong(BadText, "show ann|")


class KeptTest(ReaderCase):
    def test_cells_and_rows(self):
        self.same(self.read("cells c 0;"), ((("c", 0),), (), ()))
        self.same(self.read("rows r 7;"), ((), (("r", 7),), ()))
        self.same(self.read("cells a 1, b -1000000;rows e 1000000,f - 2;"),
                  ((("a", 1), ("b", -1000000)), (("e", 1000000), ("f", -2)), ()))
        self.same(self.read("cells c -0; c := 1"), ((("c", 0),), (), (("set", "c", ONE),)))

    def test_too_many(self):
        cells = "cells " + ", ".join(f"c{i} {i}" for i in range(8))
        rows = "rows " + ", ".join(f"r{i} {i}" for i in range(4))
        self.same(self.read(cells + "; " + rows + ";"),
                  (tuple((f"c{i}", i) for i in range(8)), tuple((f"r{i}", i) for i in range(4)), ()))
        self.wrongs(TooMany, cells + ", |x 1;", cells + ", |c0 !", cells + ", |ann")
        self.wrongs(TooMany, rows + ", |x 1;", cells + ";" + rows + ", |r0!")
        self.wrongs(BadText, cells + ", |1", cells + ",|", rows + ", |rows")

    def test_names_that_are_taken(self):
        self.wrongs(
            Twice, "cells |bob !", "cells c 0, |c 0;", "cells c 0, d 0, |ann 0", "cells c 0; rows |c 0;",
            "rows |ann 0;", "cells c 0; rows r 0, |c 0", "rows r 0, s 0, |r !", "cells c 0, d 0; rows d1 1, |d",
        )

    def test_starts(self):
        for word in ("cells", "rows"):
            self.same(self.read(f"{word} x 1000000, y -1000000;")[word == "rows"], (("x", 1000000), ("y", -1000000)))
            self.wrongs(BadNumber, f"{word} x |1000001!", f"{word} x -|1000001", f"{word} x 0, y - |9999999;")
            self.wrongs(
                BadText, f"{word} x |10000000", f"{word} x |01", f"{word} x -|-1", f"{word} x |y", f"{word} x|;",
                f"{word} x -|", f"{word} x|", f"{word} x |+1", f"{word} x -|y",
            )

    def test_what_has_to_stand(self):
        self.wrongs(
            BadText, "cells|", "cells |;", "cells |1", "cells c 0|", "cells c 0 |c := 1", "cells c 0,|",
            "cells c 0,|;", "rows|", "rows r 0|", "rows r 0; |cells c 0;", "cells c 0; |cells d 0;",
            "rows r 0; |rows s 0;", "cells c 0; |;", "cells c 0 |rows", "cells |it 0;", "cells |rows 0;", "rows r|[",
            "show ann := 1; |cells c 0;",
        )


class PartTest(ReaderCase):
    PLACES = (
        "show {} := 1", "r[{}] := 1", "c := truth[{}]", "c := shown[{}]", "c := steps[{}]", "c := s[{}]",
        "if linked {} {{}}",
        "if same {}, ann {{}}", "if same ann, {} {{}}",
    )

    def test_each_part_wherever_one_is_told(self):
        for form in self.PLACES:
            for word, part in (("ann", ANN), ("bob", BOB), ("moved", MOVED)):
                with self.subTest(form, word=word):
                    self.assertIn(repr(part), repr(self.body(form.format(word))))
            self.assertIn(repr(IT), repr(self.body("each { " + form.format("it") + " }")))

    def test_names_that_no_part_has(self):
        for form in self.PLACES:
            for word in ("cy", "c", "r", "it", "an", "anna"):
                self.wrong_body(NoName, form.format("|" + word), form.format("|" + word + " !"))
            self.wrong_body(NoName, "each { " + form.format("|c") + " }", "each {}; " + form.format("|it"))
            self.wrong_body(NoName, "if way = 1 { each {} } else { " + form.format("|it"))

    def test_words_that_tell_none(self):
        for form in self.PLACES:
            for word in ("1", "way", "truth", "(", "if", "[", ":=", "parts", "by", "9a", "!"):
                self.wrong_body(BadText, form.format("|" + word))

    def test_within_an_each(self):
        self.same(self.body("each { if linked it { show it := truth[it] } else { r[it] := s[it] } }"), (
            ("each", (("if", ("linked", IT), (("show", IT, ("truth", IT)),), (("put", "r", IT, ("row", "s", IT)),)),)),
        ))


class NumberTest(ReaderCase):
    def test_atoms(self):
        for text, number in (
            ("0", num(0)), ("1000000", num(1000000)), ("c", ("cell", "c")), ("r[ann]", ("row", "r", ANN)),
            ("s[moved]", ("row", "s", MOVED)), ("truth[bob]", ("truth", BOB)), ("shown[moved]", ("shown", MOVED)),
            ("steps[ann]", ("steps", ANN)), ("way", WAY), ("(7)", num(7)), ("((c))", ("cell", "c")),
        ):
            with self.subTest(text):
                self.same(self.number(text), number)

    def test_signs(self):
        for sign, word in (("+", "add"), ("-", "sub"), ("*", "mul"), ("/", "div"), ("mod", "mod")):
            self.same(self.number(f"1 {sign} c"), (word, ONE, ("cell", "c")))

    def test_joined_from_the_left(self):
        self.same(self.number("1 - 2 + 3 - 4"), ("sub", ("add", ("sub", ONE, num(2)), num(3)), num(4)))
        self.same(self.number("1 / 2 * 3 mod 4"), ("mod", ("mul", ("div", ONE, num(2)), num(3)), num(4)))

    def test_products_ahead_of_sums(self):
        self.same(self.number("1 + 2 * 3"), ("add", ONE, ("mul", num(2), num(3))))
        self.same(self.number("1 * 2 + 3"), ("add", ("mul", ONE, num(2)), num(3)))
        self.same(self.number("1 - 2 mod 3 - 4 / 5"), ("sub", ("sub", ONE, ("mod", num(2), num(3))),
            ("div", num(4), num(5))))

    def test_brackets(self):
        self.same(self.number("1 - (2 - 3)"), ("sub", ONE, ("sub", num(2), num(3))))
        self.same(self.number("(1 + 2) * 3"), ("mul", ("add", ONE, num(2)), num(3)))
        self.same(self.number("1 / (2 / (3 mod 4))"), ("div", ONE, ("div", num(2), ("mod", num(3), num(4)))))
        self.same(self.number("((1 + ((2))))"), ("add", ONE, num(2)))

    def test_wrong_words(self):
        self.wrong_number(
            BadText, "|", "|)", "|-1", "1 +|", "1 + |)", "1 + |* 2", "(|", "(1|", "(1 |2", "(|)", "1 |2", "1 |c",
            "c|[ann]", "r|", "r |:= 1", "r[|", "r[ann|", "r[ann |1", "truth|", "truth |ann", "truth[ann|",
            "truth[|1]", "way|[ann]", "|moved", "|it", "|not 1", "|same ann, bob", "|{", "(1 + 2|]", "(1 |= 1)",
            "1 mod|", "1 mod |mod 2", "1 |mo 2", "|01", "1 + |9a", "1 / |/ 2", "(r|)", "1 |truth[ann]", "|\"",
        )
        self.wrong_number(NoName, "|cy", "|ann", "1 + |moved1", "(|x!", "2 * |bob[ann]", "|cc")
        self.wrong_number(BadNumber, "|1000001", "1 + |9999999!", "(|2000000")
        self.wrong_number(BadText, "|10000000")

    def test_six_deep_and_seven(self):
        for sign, word in (("+", "add"), ("-", "sub"), ("*", "mul"), ("/", "div"), ("mod", "mod")):
            six = f"1 {sign} 1 {sign} 1 {sign} 1 {sign} 1 {sign} 1"
            number = ONE
            for _ in range(5):
                number = (word, number, ONE)
            self.same(self.number(six), number)
            self.wrong_number(
                TooDeep, f"{six} |{sign} 1", f"{six} |{sign} 1 {sign} 1", f"{six} |{sign} 1!", f"({six}) |{sign} 1)",
            )
            # What stands behind the sign is read ahead of that.
            self.wrong_number(BadText, f"{six} {sign} |!", f"{six} {sign}|")
            self.wrong_number(NoName, f"{six} {sign} |x")
            self.wrong_number(BadNumber, f"{six} {sign} |1000001")
            right = f"1 {sign} (1 {sign} (1 {sign} (1 {sign} (1 {sign} 1))))"
            number = ONE
            for _ in range(5):
                number = (word, ONE, number)
            self.same(self.number(right), number)
            self.wrong_number(TooDeep, f"1 |{sign} ({right})", f"1 |{sign} ({right}) !", f"1 + (1 |{sign} ({right}) !")
            self.wrong_number(BadText, f"1 {sign} ({right} |!")

    def test_each_atom_is_one_deep(self):
        for atom in ("0", "c", "r[moved]", "truth[ann]", "shown[bob]", "steps[moved]", "way", "(way)", "((s[ann]))"):
            six = " * ".join([atom] * 6)
            self.number(six)
            self.wrong_number(TooDeep, f"{six} |* {atom}", f"{atom} |- ({six})")

    def test_seven_deep_by_a_sum_of_products(self):
        six = "1 * 1 * 1 * 1 * 1 * 1"
        five = "1 * 1 * 1 * 1 * 1"
        self.same(self.number(f"{five} + {five}")[0], "add")
        self.wrong_number(
            TooDeep, f"1 |+ {six}", f"{six} |+ 1", f"{five} + {five} |- 1", f"1 + {six} |* 1", f"{six} |* 1 + 1",
            f"2 |- {six} + {six} * 1", f"2 - {six} |* 1 + {six} * 1",
        )
        # The product behind the sign is read to its end.
        self.wrong_number(BadText, f"1 + {six} *|", f"1 + {six} * |!")

    def test_twelve_brackets_and_thirteen(self):
        self.same(self.number("(" * 12 + "1" + ")" * 12), ONE)
        self.same(self.number("(" * 12 + "1" + ")" * 11 + " + (1))"), ("add", ONE, ONE))
        self.wrong_number(TooDeep, "(" * 12 + "|(1", "(" * 12 + "|(", "(" * 12 + "1 + |(!", "(" * 12 + "1) + (|(1")
        self.wrong_number(BadText, "(" * 12 + "|)")
        self.same(self.number(" + ".join(["(" * 12 + "1" + ")" * 12] * 3)), ("add", ("add", ONE, ONE), ONE))
        # The brackets of what tells a part do not count.
        self.same(self.number("(" * 12 + "r[ann]" + ")" * 12), ("row", "r", ANN))


class ConditionTest(ReaderCase):
    def test_bare_ones(self):
        for text, condition in (
            ("1 = c", ("eq", ONE, ("cell", "c"))), ("1 + 1 < way", ("less", ("add", ONE, ONE), WAY)),
            ("same moved, bob", ("same", MOVED, BOB)), ("linked ann", ("linked", ANN)),
            ("{ linked ann }", ("linked", ANN)),
            ("(1) = (1)", YES), ("(1 + 1) * 2 = 4", ("eq", ("mul", ("add", ONE, ONE), num(2)), num(4))),
            ("{{{1=1}}}", YES),
        ):
            with self.subTest(text):
                self.same(self.condition(text), condition)

    def test_joined(self):
        a, b, c = ("linked", ANN), ("linked", BOB), ("linked", MOVED)
        for text, condition in (
            ("a or b or c", ("or", ("or", a, b), c)), ("a and b and c", ("and", ("and", a, b), c)),
            ("a or b and c", ("or", a, ("and", b, c))),
            ("a and b or c", ("or", ("and", a, b), c)), ("not a and b", ("and", ("not", a), b)),
            ("not {a and b}", ("not", ("and", a, b))),
            ("not not a", ("not", ("not", a))), ("a or {b or c}", ("or", a, ("or", b, c))),
            ("{a or b} and c", ("and", ("or", a, b), c)),
            ("a and not not b or not c", ("or", ("and", a, ("not", ("not", b))), ("not", c))),
        ):
            with self.subTest(text):
                names = {"a": "ann", "b": "bob", "c": "moved"}
                text = re.sub(r"\b[abc]\b", lambda found: "linked " + names[found[0]], text)
                self.same(self.condition(text), condition)

    def test_wrong_words(self):
        self.wrong_condition(
            BadText, "|", "|}", "{|", "{|}", "way|", "way |{}", "way |and 1 = 1", "way = |{}", "way < |< 1",
            "way |:= 1", "way |> 1", "way = 1 |= 1", "way = 1 |same ann, bob", "same|", "same ann|", "same ann |bob",
            "same ann,|", "same ann, |1", "linked|", "linked |1", "not|", "not |}", "not |and", "way = 1 and|",
            "way = 1 or |}", "way = 1 and |or way = 1", "{ way = 1 |] {}", "{ way = 1|", "{ way = 1 |) {}",
            "(way |= 1) {}", "(way|", "linked ann |= 1", "|or 1 = 1", "|moved = ann", "|else", "way = 1|",
            "way = 1 |c := 1", "not not not|", "same ann|; bob",
        )
        self.wrong_condition(NoName, "|x = 1", "|ann = 1", "linked |it", "same ann, |x", "not |x", "{ |x")
        self.wrong_condition(BadNumber, "|1000001 = 1", "1 < |1000001")

    def test_six_deep_and_seven(self):
        for word in ("and", "or"):
            six = f" {word} ".join(["1 = 1"] * 6)
            self.condition(six)
            self.wrong_condition(
                TooDeep, f"{six} |{word} 1 = 1", f"{six} |{word} 1 = 1 !",
                f"{six} |{word} linked ann {word} linked ann", f"{{ {six} |{word} 1 = 1",
            )
            self.wrong_condition(BadText, f"{six} {word} |!", f"{six} {word} 1|", f"{six} {word} {{ 1 = 1|")
            self.wrong_condition(NoName, f"{six} {word} linked |x")
            right = "1 = 1"
            for _ in range(5):
                right = f"1 = 1 {word} {{ {right} }}"
            self.condition(right)
            self.wrong_condition(
                TooDeep, f"1 = 1 |{word} {{ {right} }} {{}}", f"1 = 1 |{word} {{ {right} }} !",
                f"not {{ 1 = 1 |{word} {{ {right} }} !",
            )
            self.wrong_condition(BadText, f"1 = 1 {word} {{ {right} |!")

    def test_each_bare_one_is_one_deep(self):
        for bare in ("1 = c", "way < 1 + 1 + 1", "same ann, moved", "linked bob", "{ linked bob }", "(c) = 1"):
            six = " or ".join([bare] * 6)
            self.condition(six)
            self.wrong_condition(
                TooDeep, f"{six} |or {bare}", f"{bare} |and {{ {six} }}", f"|not not not not not not {bare}",
            )

    def test_seven_deep_by_or_of_and(self):
        six, five = " and ".join(["1 = 1"] * 6), " and ".join(["1 = 1"] * 5)
        self.condition(f"{five} or {five}")
        self.wrong_condition(
            TooDeep, f"1 = 1 |or {six}", f"{six} |or 1 = 1", f"{five} or {five} |or 1 = 1",
            f"1 = 1 or {six} |and 1 = 1",
        )
        self.wrong_condition(BadText, f"1 = 1 or {six} and|")

    def test_nots(self):
        yes = "1 = 1"
        condition = YES
        for many in range(6):
            self.same(self.condition("not " * many + yes), condition)
            condition = ("not", condition)
        # The not by which it would be too deep is the sixth one from the right.
        for many in (6, 7, 8, 30):
            ahead, behind = "not " * (many - 6), "not " * 5
            self.wrong_condition(
                TooDeep, f"{ahead}|not {behind}{yes}", f"{ahead}|not {behind}{yes} !",
                f"{ahead}|not {behind}{{{yes}}}!",
            )
            self.wrong_condition(
                BadText, "not " * many + "|!", "not " * many + "1|", "not " * many + "{ 1 = 1 |!",
                "not " * many + "|",
            )
        self.wrong_condition(TooDeep, "not " * 4000 + "|not " + "not " * 5 + yes)
        self.wrong_condition(BadText, "not " * 4000 + "|")
        self.wrong_condition(TooDeep, "|not { not { not { not { not { not 1 = 1 } } } } } {}")
        self.wrong_condition(TooDeep, "|not not not not not not 1 = 1 and !")

    def test_a_not_of_what_is_joined(self):
        six = " and ".join(["1 = 1"] * 6)
        self.wrong_condition(TooDeep, f"|not {{ {six} }}", f"linked ann or |not {{ {six} }} or !")
        self.wrong_condition(BadText, f"not {{ {six} |!")
        five = " or ".join(["1 = 1"] * 5)
        self.condition(f"not {{ {five} }}")
        self.wrong_condition(TooDeep, f"not {{ {five} }} |and 1 = 1", f"linked ann |and not {{ {five} }}")

    def test_numbers_in_them_have_a_depth_of_their_own(self):
        six = "1 + 1 + 1 + 1 + 1 + 1"
        self.condition(f"not not not not not {six} = {six}")
        self.wrong_condition(TooDeep, f"{six} |+ 1 = 1", f"1 < {six} |- 1")

    def test_twelve_brackets_and_thirteen(self):
        self.same(self.condition("{" * 12 + "1 = 1" + "}" * 12), YES)
        self.wrong_condition(TooDeep, "{" * 12 + "|{ 1 = 1", "{" * 12 + "|{", "{" * 12 + "linked ann or |{!")
        # Those of numbers and those of tests are counted together.
        self.same(self.condition("{" * 6 + "(" * 6 + "1" + ")" * 6 + " = 1" + "}" * 6), YES)
        self.same(self.condition("{" * 11 + "(1) = (1)" + "}" * 11), YES)
        self.wrong_condition(
            TooDeep, "{" * 12 + "|(1) = 1", "{" * 6 + "(" * 6 + "|(1", "{" * 11 + "(|(", "{" * 11 + "(1) = (1 + |(",
        )
        self.same(self.condition("{" * 12 + "1 = 1" + "}" * 12 + " or " + "{" * 12 + "1 = 1" + "}" * 12),
            ("or", YES, YES))
        # Those of blocks are not counted.
        (outer,) = self.body("if 1 = 1 { if 1 = 1 { if " + "{" * 12 + "1 = 1" + "}" * 12 + " {} } }")
        self.same(outer[2][0][2][0][1], YES)


class StatementTest(ReaderCase):
    def test_each_kind(self):
        for text, statement in (
            ("c := 1", ("set", "c", ONE)), ("r[moved] := way", ("put", "r", MOVED, WAY)),
            ("show bob := c", ("show", BOB, ("cell", "c"))),
            ("if 1 = 1 {}", ("if", YES, (), ())), ("if 1 = 1 {} else {}", ("if", YES, (), ())),
            ("each {}", ("each", ())),
            ("if 1 = 1 { c := 1 } else { d := 1; d := way }",
            ("if", YES, (("set", "c", ONE),), (("set", "d", ONE), ("set", "d", WAY)))),
            ("each { show it := 1; c := 1 }", ("each", (("show", IT, ONE), ("set", "c", ONE)))),
        ):
            with self.subTest(text):
                self.same(self.body(text), (statement,))
                self.same(self.body(text + ";" + text), (statement, statement))
                self.same(self.body("if 1 = 1 {" + text + "}"), (("if", YES, (statement,), ()),))

    def test_wrong_words(self):
        self.wrong_body(
            BadText, "c|", "c |= 1", "c |:", "c|[ann] := 1", "c :=|", "c := 1 |c := 1", "c := 1;|", "c := 1;|;", "|1",
            "|;", "|:=", "|way := 1", "|moved := 1", "r|", "r |:= 1", "r[ann]|", "r[ann] |= 1", "r[ann] :=|", "show|",
            "show ann|", "show ann |= 1", "show ann :=|", "show|[ann] := 1", "if|", "each|", "each |c := 1",
            "each {|", "each { c := 1|", "each { c := 1;|", "each { c := 1; |}", "each { |; }", "each {} |each {}",
            "each {} |else {}", "if 1 = 1|", "if 1 = 1 |c := 1", "if 1 = 1 {|", "if 1 = 1 {} |{}",
            "if 1 = 1 {} else|", "if 1 = 1 {} else |if 1 = 1 {}", "if 1 = 1 {} else {|",
            "if 1 = 1 {} else {} |else {}", "if 1 = 1 {}; |else {}", "|}", "c := 1 |}", "each {} |}", "|else {}",
            "|{}", "each { |1 }", "|line", "|mod := 1", "|by := 1", "each {}|,", "each { c := 1 |, }",
        )
        self.wrong_body(
            NoName, "|x := 1", "|x", "|ann := 1", "each { |bob := 1", "c := 1; |x!", "if 1 = 1 {} else { |x",
        )

    def test_six_bodies_and_seven(self):
        for opening in ("if 1 = 1 { ", "if 1 = 1 {} else { ", "if 1 = 1 { c := 1; "):
            self.body(opening * 5 + "c := 1" + " }" * 5)
        held = "if 1 = 1 { " * 5
        self.wrong_body(
            TooDeep, held + "if 1 = 1 |{", held + "if 1 = 1 |{!", held + "if 1 = 1 |{}" + "}" * 5,
            held + "c := 1; if 1 = 1 |{}",
        )
        self.wrong_body(BadText, held + "if 1 = 1 |!", held + "if 1 = 1|")
        other = "if 1 = 1 {} else { "
        self.wrong_body(TooDeep, other * 5 + "if 1 = 1 |{} else {", other * 5 + "each |{ c := 1")
        self.wrong_body(TooDeep, "if 1 = 1 { " * 5 + "each |{}")
        self.body("each { " + "if 1 = 1 { " * 4 + "c := 1" + "}" * 5)
        self.wrong_body(TooDeep, "each { " + "if 1 = 1 { " * 4 + "c := 1; if 1 = 1 |{")
        self.body("if 1 = 1 { " * 4 + "each {}" + "}" * 4)

    def test_an_each_within_an_each(self):
        self.wrong_body(
            TooDeep, "each { |each", "each { |each !", "each { c := 1; |each {} }",
            "each { if 1 = 1 {} else { |each {}", "if 1 = 1 { each { |each {} } }",
        )
        self.body("each {}; each {}; if 1 = 1 { each {} } else { each {} }; each { c := 1 }")

    def test_thirty_statements(self):
        thirty = "; ".join(["c := 1"] * 30)
        self.same(self.body(thirty), (("set", "c", ONE),) * 30)
        self.wrong_body(
            TooMany, thirty + "; |c := 1", thirty + "; |x", thirty + ";|show", thirty + "; |each!", thirty + "; |if",
            "each { " + thirty + "; |each {}", "if 1 = 1 {} else { " + thirty + "; |ann",
        )
        self.wrong_body(BadText, thirty + ";|", thirty + "; |}", thirty + "; |1", thirty + "; |way")
        self.same(len(self.body("each { " + thirty + " }; " + "; ".join(["d := 1"] * 29))), 30)

    def test_a_hundred_statements(self):
        many = "; ".join(["c := 1"] * 30)
        hundred = f"if 1 = 1 {{ {many} }} else {{ {many} }}; each {{ {many} }}" + "; c := 1" * 8
        self.body(hundred)
        self.wrong_body(TooMany, hundred + "; |c := 1", hundred + "; |x", hundred + ";|each")
        self.wrong_body(BadText, hundred + ";|", hundred + "; |1")
        eight = "; ".join(["c := 1"] * 8)
        inner = f"if 1 = 1 {{ {many} }} else {{ {many} }}; if 1 = 1 {{ {many} }} else {{ {eight}"
        self.body(inner + "}")
        self.wrong_body(TooMany, inner + "; |c := 1 }", inner + "; |each")
        # A statement counts ahead of those in its bodies.
        self.wrong_body(TooMany, hundred[:-8] + "; if 1 = 1 { |c")
        self.body(hundred[:-8] + "; if 1 = 1 {}")


class WholeTest(ReaderCase):
    def test_blanks(self):
        text = "cells c -5;rows r 1;each{if same it,moved{r[it]:=c mod 2}else{show it:=(1+way)*2};c:=0}"
        spaced = " ".join(text.replace(":=", "?"))
        for word in ("cells", "rows", "each", "if", "same", "it", "moved", "mod", "else", "show", "way"):
            spaced = spaced.replace(" ".join(word), word)
        self.same(self.read(text), self.read(spaced.replace("?", ":=")))

    def told(self, book, names, words):
        try:
            return read_publisher(book, names, " ".join(words))
        except Refused as error:
            return error.kind, error.what

    def test_spoilt_texts(self):
        """What is read is a publisher; what is refused is refused for what stands there and ahead of it."""
        chance = random.Random(49)
        strange = (
            "c0", "r0", "ann", "it", "moved", "if", "each", "{", "}", "(", ")", "[", "]", ";", ",", ":=", "=", "+",
            "mod", "not", "and",
            "or", "1", "1000001", "01", "!", "show", "x", "else", "-", "cells", "truth", "linked", "same",
            "+ 1 + 1 + 1 + 1", "not not not not",
        )
        kinds = {}
        for _ in range(2000):
            book = some_book(chance, 4)
            names = part_names(book)
            text = print_publisher(book, names, some_publisher(chance, book, large=chance.random() < 0.3))
            words = re.findall("[a-z0-9]+|:=|[^ ]", text)
            for _ in range(chance.randint(1, 2)):
                at = chance.randrange(len(words) + 1)
                words[at:at + chance.randint(0, 2)] = chance.choice(strange).split() * chance.randint(0, 2)
            told = self.told(book, names, words)
            kind = told[0] if isinstance(told[0], str) else "read"
            kinds[kind] = kinds.get(kind, 0) + 1
            with self.subTest(text=" ".join(words), told=told):
                if kind == "read":
                    made_publisher(book, names, told)
                    self.same(self.told(book, names, print_publisher(book, names, told).split(" ")), told)
                else:
                    self.first_wrong(chance, book, names, words, told)
        self.assertEqual(set(kinds), {"read", "BadText", "NoName", "TooDeep", "Twice", "BadNumber"})

    def first_wrong(self, chance, book, names, words, told):
        """All words ahead of the one that is refused may stand; what stands behind it makes no difference."""
        places = [len(" ".join(words[:index] + [""])) for index in range(len(words))]
        if told == ("BadText", len(" ".join(words))):
            return
        at = places.index(told[1])
        ahead = self.told(book, names, words[:at])
        if ahead[0] == "BadText":
            self.assertEqual(ahead[1], len(" ".join(words[:at])))
        else:
            made_publisher(book, names, ahead)
        if told[0] != "TooDeep":
            behind = [chance.choice(("!", "1", ")", "x", ";", "}")) for _ in range(chance.randint(0, 5))]
            self.assertEqual(self.told(book, names, words[:at + 1] + behind), told)
