import random
import re

from byhalves.breaker import breaker
from byhalves.desk import Desk
from byhalves.printer import print_paper
from byhalves.programs import program
from byhalves.reader import read_publisher
from byhalves.readbooks import read_line
from refusals import Refusals
from values import nested

BOOK = ((4, 4), ((0,), (1,)))
NAMES = ("ann", "bob")
HALF = "show moved := (2 * truth[moved] + steps[moved]) / (2 * steps[moved])"
UP = (0, 1)

EXAMPLES = (
    ("publisher half: " + HALF, "ok"),
    ("line sum: line 1 ann, 1 bob", "ok"),
    ("open f half", "ok"),
    ("f up ann 3", "ok"),
    ("f report", "ann shown 1 true 3/4 off 1/4 / bob shown 0 true 0 off 0 / line 0: shown 1 true 3/4 off 1/4"),
    ("f audit 1", "1 stray ann"),
    ("f audit 2", "none"),
    ("spread sum", "6"),
    ("off sum", "3"),
    ("f correct 1: bob down", "ok"),
    ("f correct 9: bob down", "refused: BadIndex 9"),
    ("g up ann", "refused: NoWord g"),
    ("f up cy", "refused: NoName 5"),
    ("f up", "refused: BadText 4"),
)


class RowCase(Refusals):
    def desk(self, book=BOOK):
        desk = Desk(NAMES, book)
        for row in ("publisher half: " + HALF, "publisher still:", "line sum: line 1 ann, 1 bob", "open f half"):
            self.same(desk.row(row), "ok")
        return desk

    def standing(self, desk):
        """All that rows can tell of a desk."""
        words = ("f", "g", "half", "still", "sum", "x")
        told = [desk.row(form.format(word)) for word in words for form in (
            "off {}", "spread {}", "break {} sum 3", "break half {} 3", "{} report", "{} audit 0",
        )]
        return told + [[desk.feed("f").history(number + 1) for number in range(desk.feed("f").editions())]]

    def refusals(self, desk, *rows):
        """Each row is refused as told, and nothing has changed; "|" marks the place that is told."""
        before = self.standing(desk)
        for marked, told in rows:
            place = marked.find("|")
            row = marked.replace("|", "", 1)
            with self.subTest(row):
                self.same(desk.row(row), "refused: " + told.replace("|", str(place)))
                self.same(self.standing(desk), before)

    def bad_texts(self, desk, *rows):
        self.refusals(desk, *((row, "BadText |") for row in rows))


class ExampleTest(RowCase):
    def test_the_rows_one_behind_another(self):
        desk = Desk(NAMES, BOOK)
        for row, answer in EXAMPLES:
            with self.subTest(row):
                self.same(desk.row(row), answer)
        self.same(desk.feed("f").history(), (UP, (1, -1), UP))


class DeedTest(RowCase):
    def test_publisher(self):
        desk = Desk(NAMES, BOOK)
        for word in ("half", "x", "publisher", "open", "off", "report"):
            self.same(desk.row(f"publisher {word}: {HALF}"), "ok")
            desk.row("line sum: line 1 ann")
            self.same(desk.paper(word, "sum", 3), breaker(BOOK, (1, 0),
                program(BOOK, NAMES, read_publisher(BOOK, NAMES, HALF)), 3))
        self.same(desk.row("publisher e:"), "ok")
        self.same(desk.row("publisher e :  cells c -5; rows r 1; each { r[it] := c }"), "ok")
        self.same(desk.row("publisher half:show ann:=1"), "ok")

    def test_line(self):
        desk = Desk(NAMES, BOOK)
        self.same(desk.row("line a: line -20 bob"), "ok")
        self.same(desk.row("line b :line 1 bob,2 ann"), "ok")
        self.same([desk.row("spread " + word) for word in "ab"], ["60", "9"])
        self.same(desk.row("line a: line 1 bob"), "ok")
        self.same(desk.row("spread a"), "3")

    def test_open(self):
        desk = self.desk()
        self.same(desk.row("open g still"), "ok")
        self.same(desk.row("g up ann 2"), "ok")
        self.same(desk.feed("g").state(), ((2, 0), (0, 0)))
        for word in ("report", "audit", "correct"):
            self.same(desk.row(f"open {word} half"), "ok")
        self.same(desk.row("report up ann 2"), "ok")
        self.same(desk.row("report report")[:30], "ann shown 1 true 1/2 off 1/2 /")
        self.same(desk.row("correct correct 0: ann down, bob down"), "ok")
        self.same(desk.row("correct up ann 3"), "ok")
        self.same(desk.feed("correct").history(), ((0, -1), (1, -1), UP, UP, UP))
        self.same(desk.row("audit audit 0"), "none")

    def test_moves(self):
        desk = self.desk()
        for row, history in (
            ("f up ann", (UP,)), ("f down bob", (UP, (1, -1))), ("f up bob 2", (UP, (1, -1), (1, 1), (1, 1))),
            ("f down ann 1", (UP, (1, -1), (1, 1), (1, 1), (0, -1))),
        ):
            self.same(desk.row(row), "ok")
            self.same(desk.feed("f").history(), history)
        self.same(desk.row("f up ann 1000"), "ok")
        self.same(len(desk.feed("f").history()), 1005)

    def test_correct(self):
        desk = self.desk()
        desk.row("f up ann 3")
        for row, history in (
            ("f correct 1: bob down", (UP, (1, -1), UP)), ("f correct 0:", ((1, -1), UP)),
            ("f correct 2: ann up 2", ((1, -1), UP, UP, UP)),
            ("f correct 0 : bob up, bob down 2", ((1, 1), (1, -1), (1, -1), UP, UP, UP)),
        ):
            self.same(desk.row(row), "ok")
            self.same(desk.feed("f").history(), history)
        self.same(desk.feed("f").editions(), 5)


class QuestionTest(RowCase):
    def test_report(self):
        desk = self.desk()
        desk.row("line odd: line 2 ann, -1 bob")
        desk.row("f down ann 10")
        desk.row("f up bob 6")
        self.same(desk.row("f report"), "ann shown -2 true -5/2 off 1/2 / bob shown 2 true 3/2 off 1/2 / "
                                        "line 0: shown -6 true -13/2 off 1/2 / line 1: shown 0 true -1 off 1")
        desk = self.desk(((4, 6), ((0,), (1,))))
        self.same(desk.row("f report"), "ann shown 0 true 0 off 0 / bob shown 0 true 0 off 0 / line 0: off 0 steps")
        desk = Desk(NAMES, BOOK)
        desk.row("publisher p:")
        desk.row("open f p")
        self.same(desk.row("f report"), "ann shown 0 true 0 off 0 / bob shown 0 true 0 off 0")

    def test_audit(self):
        desk = self.desk()
        desk.row("f up ann 3")
        desk.row("f up bob 2")
        self.same(desk.row("f audit 1"), "1 stray ann, 4 stray bob")
        self.same(desk.row("f audit 0"),
            "0 stray ann, 1 stray ann, 2 stray ann, 3 stray ann, 3 stray bob, 4 stray ann, 4 stray bob")
        self.same(desk.row("f audit 2"), "none")
        self.same(desk.row("f audit 10000"), "none")

    def test_break(self):
        desk = self.desk()
        for row, publisher, text in (("break half sum 3", HALF, "spread "), ("break still sum 3", "", "")):
            paper = breaker(BOOK, (1, 1), program(BOOK, NAMES, read_publisher(BOOK, NAMES, publisher)), 3)
            self.same(desk.row(row), print_paper(BOOK, NAMES, paper))
            self.assertTrue(desk.row(row).startswith(text))
        desk.row("publisher out: show ann := shown[ann] + 1")
        self.assertRegex(desk.row("break out sum 3"), "^rule ")
        desk.row("publisher bad: show ann := 1 / (1 - way)")
        self.assertRegex(desk.row("break bad sum 3"), "^rule ")
        self.assertRegex(desk.row("break still sum 0"), "^bound ")

    def test_off_and_spread(self):
        desk = self.desk()
        self.same((desk.row("off sum"), desk.row("spread sum")), ("3", "6"))
        desk.row("line one: line 5 ann")
        self.same((desk.row("off one"), desk.row("spread one")), ("8", "15"))


class RefusedTest(RowCase):
    def test_what_is_refused_when_it_is_done(self):
        desk = self.desk()
        desk.row("f up ann 3")
        self.refusals(
            desk, ("open f half", "Twice f"), ("open g x", "NoWord x"), ("open g sum", "NoWord sum"),
            ("open break half", "BadName break"), ("open publisher half", "BadName publisher"),
            ("open open x", "BadName open"), ("open off half", "BadName off"), ("f up ann 0", "BadMany 0"),
            ("f up ann 1001", "BadMany 1001"), ("f up ann 9999999", "BadMany 9999999"), ("g up ann", "NoWord g"),
            ("half up ann", "NoWord half"), ("g down bob 0", "NoWord g"), ("f correct 4: bob up", "BadIndex 4"),
            ("f correct 9999999:", "BadIndex 9999999"), ("g correct 0:", "NoWord g"), ("g report", "NoWord g"),
            ("g audit 99999", "NoWord g"), ("f audit 10001", "BadBound 0"), ("break x y 99999", "NoWord x"),
            ("break half y 99999", "NoWord y"), ("break half sum 10001", "BadBound 0"),
            ("break half sum 10000", "TooLarge 400080004"), ("off half", "NoWord half"), ("spread x", "NoWord x"),
            ("f correct 3: ann up 5000", "TooMany 5001"),
        )

    def test_a_rule_that_is_broken(self):
        desk = self.desk()
        desk.row("publisher odd: if way = 1 {} else { show ann := 1; show bob := 1 }")
        desk.row("open g odd")
        desk.row("g up ann 2")
        self.refusals(
            desk, ("g down bob", "Broken 2"), ("g down bob 7", "Broken 2"),
            ("g correct 1: bob up, bob down", "Broken 2"),
        )
        self.same(desk.feed("g").history(), (UP, UP))

    def test_what_is_refused_when_it_is_read(self):
        desk = self.desk()
        self.bad_texts(
            desk, "|", "   |", "|1", "|up", "|F report", "|it", "f|", "f |1", "f |ann", "f |reports", "f |line",
            "f up|", "f up |3", "f up |up", "f up ann |bob", "f up ann 3 |3", "f up ann |03", "f up ann |10000000",
            "f up ann |-1", "f report |f", "f report|;", "f audit|", "f audit |x", "f audit 1 |1", "f audit |-1",
            "f correct|", "f correct |:", "f correct 1|", "f correct 1 |bob up", "f correct 1: bob|",
            "f correct |-1: bob up", "f correct 1: bob up|; bob up", "f correct 1: bob up,|", "f correct 1|:= bob up",
        )
        self.refusals(
            desk, ("f up |cy", "NoName |"), ("f down |cy !", "NoName |"), ("f correct 1: |cy up", "NoName |"),
            ("f correct 1: bob up |0", "BadNumber |"), ("f correct 1: bob up 5000, |ann up", "TooMany |"),
        )

    def test_what_is_refused_when_what_is_kept_is_read(self):
        desk = self.desk()
        self.bad_texts(
            desk, "publisher|", "publisher |it: ", "publisher |1: ", "publisher half|",
            "publisher half |show ann := 1", "publisher half|:= 1", "publisher x: each {|",
            "publisher half: show ann := 1 |show", "publisher abcdefghijkl: show ann := |!",
            "publisher |abcdefghijklm: ", "line|", "line |1: line 1 ann", "line sum|", "line |1 ann, 1 bob",
            "line sum: |1 ann", "line sum: line 1 ann |1", "line sum: line 1 ann,|", "line |line: line 1 ann",
            "line sum: line 1 ann|: ", "open|", "open g|", "open g |1", "open g half |1", "open |line half",
            "open |spread half", "open g|: half", "break|", "break half|", "break half sum|", "break half |3",
            "break half sum |x", "break half sum 3 |3", "off|", "off |1", "off sum |sum", "spread|", "spread sum |1",
            "spread |/ ann up", "spread |up",
        )
        self.refusals(
            desk, ("publisher half: |x := 1", "NoName |"), ("publisher half: cells |ann 0;", "Twice |"),
            ("publisher half: show ann := |1000001", "BadNumber |"),
            ("publisher half: each { |each {} }", "TooDeep |"), ("publisher half: show |it := 1", "NoName |"),
            ("line sum: line |0 ann", "BadNumber |"), ("line sum: line 1 |cy", "NoName |"),
            ("line sum: line 1 ann, 1 |ann", "Twice |"),
        )

    def test_words_of_rows_go_ahead_of_feeds(self):
        desk = self.desk()
        self.bad_texts(
            desk, "publisher |up ann", "open |up ann", "break |down ann", "off |up ann", "spread audit |1",
            "publisher report|", "open report|", "break report|", "off correct |1: ann up",
        )
        self.refusals(desk, ("off report", "NoWord report"))

    def test_no_room(self):
        desk = self.desk()
        for number in range(18):
            desk.row(f"publisher p{number}: ")
        for number in range(19):
            desk.row(f"line l{number}: line 1 ann")
        for number in range(9):
            desk.row(f"open f{number} half")
        self.refusals(
            desk, ("publisher x: ", "TooMany 21"), ("line x: line 1 ann", "TooMany 21"),
            ("open x half", "TooMany 11"), ("open f half", "Twice f"), ("open x y", "NoWord y"),
            ("line x: line 1 |cy", "NoName |"),
        )
        self.same(desk.row("publisher p3: show ann := 1"), "ok")
        self.same(desk.row("line l3: line 2 ann"), "ok")

    def test_fifty_editions(self):
        desk = self.desk()
        for _ in range(49):
            self.same(desk.row("f correct 0: ann up"), "ok")
        self.refusals(desk, ("f correct 0: ann up", "TooMany 51"), ("f correct 2: ann up", "BadIndex 2"))

    def test_texts(self):
        desk = self.desk()
        self.refusals(
            desk, ("f up ann\n", "BadText 8"), ("f up ann 3" + " " * 19990 + "!", "BadText 20000"),
            ("\t", "BadText 0"),
        )
        self.same(desk.row("f up ann 3" + " " * 19990), "ok")
        for wrong in (None, True, 0, (), ("f report",), nested("f", 49), b"f report"):
            self.same(desk.row(wrong), "refused: BadText -1")

    def test_all_words_are_read_ahead_of_anything_that_is_done_or_asked(self):
        desk = self.desk()
        self.bad_texts(
            desk, "g up ann 3 |!", "f up ann 3|!", "open f x|!", "f audit 99999 |!", "f correct 99: bob up|!",
            "break x y 99999 |z", "off x |y", "g report|.", "publisher x: show ann := 1|!", "line x: line 1 ann|!",
            "open break half |half",
        )
        self.refusals(desk, ("g correct 0: bob up 5000, |bob up", "TooMany |"), ("g up |cy", "NoName |"))


class AnyTextTest(RowCase):
    def test_nothing_is_raised(self):
        chance = random.Random(60)
        rows = [row for row, _ in EXAMPLES] + [
            "break half sum 3", "publisher p: cells c 1; each { if linked it { c := c + 1 } }", "line l: line -3 bob",
            "open g p", "g down bob 2",
            "g report", "g audit 0", "break p l 2",
        ]
        signs = "abf 13:;,=<(){}[]+-*/!\n"
        desk = Desk(NAMES, BOOK)
        oks = 0
        for _ in range(4000):
            row = chance.choice(rows)
            if chance.random() < 0.7:
                words = re.findall("[a-z0-9]+|:=|[^ ]", row)
                for _ in range(chance.randint(1, 3)):
                    at = chance.randrange(len(words) + 1)
                    words[at:at + chance.randint(0,
                        2)] = [chance.choice(chance.choice(rows).split())] * chance.randint(0, 2)
                row = " ".join(words)
            if chance.random() < 0.2:
                at = chance.randrange(len(row) + 1)
                row = row[:at] + chance.choice(signs) + row[at + chance.randint(0, 1):]
            answer = desk.row(row)
            self.assertIsInstance(answer, str)
            self.assertRegex(answer,
                "^(ok|none|[0-9]+|refused: [A-Za-z]+ .*|(ann shown|[0-9]+ (rule|stray)|spread|bound|rule) .*)$")
            oks += answer == "ok"
        self.assertGreater(oks, 300)

    def test_what_is_kept_is_what_is_read(self):
        desk = self.desk()
        text = "cells c -5; rows r 1; each { if same it, moved { r[it] := c mod 2 } }; show moved := r[moved]"
        desk.row("publisher p: " + text)
        desk.row("line l: line 3 bob, -2 ann")
        player = program(BOOK, NAMES, read_publisher(BOOK, NAMES, text))
        line = read_line(BOOK, NAMES, "line 3 bob, -2 ann")
        self.same(desk.paper("p", "l", 5), breaker(BOOK, line, player, 5))
