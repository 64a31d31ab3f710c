import random

from byhalves.books import made_book, plain
from byhalves.errors import BadBook, BadHistory, BadLine, BadNames, BadNumber, BadPaper, BadText, NoName, TooMany, Twice
from byhalves.printer import print_book, print_history, print_line, print_paper
from byhalves.publishers import made_names
from byhalves.readbooks import read_book, read_history, read_line, read_paper
from programming import part_names
from refusals import TextRefusals
from values import nested, some_book, some_history, some_line, some_value

BOOK = ((4, 4), ((0,), (1,)))
NAMES = ("ann", "bob")
CY = ("ann", "bob", "cy")
LINKED = ((4, 6, 4), ((0, 1, 2), (1,), (0, 2)))
TEXT = "parts ann 4, bob 6, cy 4; links ann: bob, cy; cy: ann"
UP = (0, 1)


class BookTest(TextRefusals):
    def read(self, text):
        return read_book(text)

    def test_the_example(self):
        self.same(read_book(TEXT), (CY, LINKED))
        self.same(print_book(LINKED, CY), TEXT)
        self.same(print_book(names=CY, book=LINKED), TEXT)

    def test_without_links(self):
        self.same(read_book("parts ann 4, bob 4"), (NAMES, BOOK))
        self.same(print_book(BOOK, NAMES), "parts ann 4, bob 4")
        self.same(read_book("parts a 60"), (("a",), plain((60,))))
        self.same(print_book(plain((60,)), ("a",)), "parts a 60")

    def test_names_of_a_row_in_any_order_with_the_part_itself_or_without(self):
        for row in ("bob, cy", "cy, bob", "ann, bob, cy", "cy, ann, bob", "bob,ann,cy"):
            with self.subTest(row):
                self.same(read_book(f"parts ann 4, bob 6, cy 4; links ann: {row}; cy: cy, ann"), (CY, LINKED))
                self.same(read_book(f"parts ann 4, bob 6, cy 4; links cy: ann; ann: {row}"), (CY, LINKED))
        self.same(read_book("parts ann 4, bob 4; links ann: ann"), (NAMES, BOOK))
        self.same(read_book("parts ann 4, bob 4; links bob: bob; ann: ann"), (NAMES, BOOK))

    def test_others_are_told_rising(self):
        book = (((1,) * 4), ((0,), (0, 1, 2, 3), (2,), (1, 3)))
        self.same(print_book(book, ("d", "c", "b", "a")), "parts d 1, c 1, b 1, a 1; links c: d, b, a; a: c")

    def test_six_parts_and_seven(self):
        six = "parts a 1, b 2, c 3, d 4, e 5, f 6"
        self.same(read_book(six), (tuple("abcdef"), plain((1, 2, 3, 4, 5, 6))))
        self.wrongs(TooMany, six + ", |g 7", six + ", |a !", six + ",|g")
        self.wrongs(BadText, six + ", |7", six + ",|", six + ", |")

    def test_a_name_twice(self):
        self.wrongs(Twice, "parts a 1,|a 2", "parts a 1, b 2, |a !", "parts a 1, b 2, |b")

    def test_steps(self):
        for steps in (1, 9, 60):
            self.same(read_book(f"parts a {steps}")[1], plain((steps,)))
        for steps in ("0", "61", "100", "9999999"):
            self.wrongs(BadNumber, f"parts a |{steps}", f"parts a 1, b |{steps}!")
        for steps in ("-1", "01", "b", "", "10000000", ",", ";"):
            self.wrong(BadText, f"parts a |{steps}")

    def test_what_has_to_stand(self):
        self.wrongs(
            BadText, "|part a 1", "|a 1", "|links a: a", "parts|", "parts |;", "parts |1 a", "parts a|",
            "parts a|, b 1", "parts a 1 |b 2", "parts a 1|: b", "parts a 1;|", "parts a 1;|a: a",
            "parts a 1; |link a: a", "parts a 1; links|", "parts a 1; links |; a: a", "parts a 1; links a:|",
            "parts a 1; links a: |", "parts a 1; links a|", "parts a 1; links a|, a", "parts a 1; links a: |; a",
            "parts a 1; links a: |1", "parts a 1; links a: a |a", "parts a 1; links a: a |: a",
            "parts a 1; links a: a;|", "parts a 1; links a: a,|", "parts a 1; links a: a; |links a: a", "|PARTS a 1",
            "|", "parts a 1; links |1: a", "parts |parts 1", "parts |it 1",
        )

    def test_names_of_a_row(self):
        start = "parts a 1, b 2; links "
        self.wrongs(NoName, start + "|c: a", start + "|c, !", start + "a: |c!", start + "a: b, |c", start + "a: b; |c")
        self.wrongs(Twice, start + "a: b; |a: b", start + "a: b; b: b; |a !", start + "a: b, |b", start + "a: a, b, |a")
        # The part itself may stand behind its ":" once.
        self.same(read_book(start + "a: b, a")[1], ((1, 2), ((0, 1), (1,))))
        # The same names may stand in several rows.
        self.same(read_book(start + "b: a, b; a: a, b")[1], ((1, 2), ((0, 1), (0, 1))))

    def test_read_of_what_is_told(self):
        chance = random.Random(50)
        for _ in range(500):
            book = some_book(chance, 6, steps=range(1, 61), linked=chance.choice((0, 0.3, 0.9)))
            names = part_names(book)
            text = print_book(book, names)
            self.same(read_book(text), (names, book))
            self.same(print_book(*reversed(read_book(text))), text)

    def test_what_is_read_is_a_book_and_names(self):
        chance = random.Random(501)
        words = ["parts", "links", "a", "b", "c", "1", "60", "61", ",", ";", ":", "a 1", "b 2", "a: b", ", b 3"]
        read = 0
        for _ in range(4000):
            text = "parts a 1" + " ".join(chance.choice(words) for _ in range(chance.randint(0, 6)))
            try:
                names, book = read_book(text)
            except (BadText, NoName, Twice, BadNumber) as error:
                self.assertLessEqual(error.what, len(text))
                continue
            made_names(made_book(book), names)
            self.same(read_book(print_book(book, names)), (names, book))
            read += 1
        self.assertGreater(read, 50)

    def test_errors_of_printing(self):
        self.refused(BadBook, -1, print_book, None, None)
        self.refused(BadNames, -1, print_book, BOOK, None)
        self.refused(BadNames, 1, print_book, BOOK, ("ann", "it"))


class LineTest(TextRefusals):
    def read(self, text):
        return read_line(LINKED, CY, text)

    def test_the_example(self):
        self.same(print_line(BOOK, NAMES, (1, -2)), "line 1 ann, -2 bob")
        self.same(print_line(line=(1, -2), names=NAMES, book=BOOK), "line 1 ann, -2 bob")
        self.same(read_line(BOOK, NAMES, "line 1 ann, -2 bob"), (1, -2))

    def test_parts_in_any_order_and_parts_that_are_not_named(self):
        self.same(read_line(LINKED, CY, "line -3 cy, 20 ann"), (20, 0, -3))
        self.same(read_line(LINKED, CY, "line - 20 bob"), (0, -20, 0))
        self.same(print_line(LINKED, CY, (20, 0, -3)), "line 20 ann, -3 cy")
        self.same(print_line(LINKED, CY, (0, -20, 0)), "line -20 bob")

    def test_weights(self):
        for weight in (1, 2, 19, 20):
            self.same(read_line(LINKED, CY, f"line {weight} bob"), (0, weight, 0))
            self.same(read_line(LINKED, CY, f"line -{weight} bob"), (0, -weight, 0))
        for weight in ("0", "21", "100", "9999999"):
            self.wrongs(BadNumber, f"line |{weight} bob", f"line -|{weight} !", f"line 1 ann, - |{weight}")
        self.wrongs(
            BadText, "line -|-1 bob", "line |+1 bob", "line |bob", "line |01 bob", "line - |bob", "line -|",
            "line |1bob",
        )

    def test_names(self):
        self.wrongs(NoName, "line 1 |dee, 0 !", "line 1 ann, 1 |dee!")
        self.wrongs(Twice, "line 1 ann, 1 |ann, 0", "line 1 ann, 1 bob, -2 |ann")

    def test_what_has_to_stand(self):
        self.wrongs(
            BadText, "|", "|1 ann", "|lines 1 ann", "line|", "line |,", "line 1|", "line 1 |1", "line 1|, 2 ann",
            "line 1 ann |2 bob", "line 1 ann,|", "line 1 ann|;", "line 1 ann, |line 2 bob", "|line1 ann",
            "line 1 |line",
        )

    def test_read_of_what_is_told(self):
        chance = random.Random(57)
        for _ in range(500):
            book = some_book(chance, 6)
            line = some_line(chance, book, range(-20, 21))
            text = print_line(book, part_names(book), line)
            self.same(read_line(book, part_names(book), text), line)

    def test_errors_of_printing(self):
        self.refused(BadBook, -1, print_line, None, None, None)
        self.refused(BadNames, -1, print_line, BOOK, None, None)
        self.refused(BadLine, -1, print_line, BOOK, NAMES, None)
        self.refused(BadLine, 0, print_line, BOOK, NAMES, (0, 0))
        self.refused(BadLine, 1, print_line, BOOK, NAMES, (1, 21))


class HistoryTest(TextRefusals):
    HISTORY = (UP, UP, UP, (1, -1), UP)

    def read(self, text):
        return read_history(BOOK, NAMES, text)

    def test_the_example(self):
        self.same(print_history(BOOK, NAMES, self.HISTORY), "ann up 3, bob down, ann up")
        self.same(print_history(history=self.HISTORY, names=NAMES, book=BOOK), "ann up 3, bob down, ann up")
        self.same(read_history(BOOK, NAMES, "ann up 3, bob down, ann up"), self.HISTORY)

    def test_nothing(self):
        self.same(read_history(BOOK, NAMES, ""), ())
        self.same(read_history(BOOK, NAMES, "   "), ())
        self.same(print_history(BOOK, NAMES, ()), "")

    def test_turns_that_could_be_one(self):
        self.same(read_history(BOOK, NAMES, "ann up, ann up 1, ann up 2, ann down"), (UP,) * 4 + ((0, -1),))
        self.same(print_history(BOOK, NAMES, (UP,) * 4 + ((0, -1),)), "ann up 4, ann down")
        self.same(print_history(BOOK, NAMES, (UP, (0, -1), UP, (1, 1), (1, 1))), "ann up, ann down, ann up, bob up 2")

    def test_how_many(self):
        for many in (1, 2, 999, 5000):
            self.same(read_history(BOOK, NAMES, f"bob down {many}"), ((1, -1),) * many)
        for many in ("0", "5001", "9999999"):
            self.wrongs(BadNumber, f"ann up |{many}", f"ann up, bob up |{many}!")
        for many in ("00", "05", "-1", "10000000"):
            self.wrong(BadText, f"ann up |{many}")

    def test_five_thousand_moves(self):
        self.same(read_history(BOOK, NAMES, "ann up 4999, bob up"), (UP,) * 4999 + ((1, 1),))
        self.same(len(read_history(BOOK, NAMES, ", ".join(["ann up 1000"] * 5))), 5000)
        self.wrongs(
            TooMany, "ann up 5000, |bob up", "ann up 4999, |bob up 2, ann up", "ann up 5000, |bob up!",
            "ann up 5000, |bob up 05", "ann up 5000, |bob up, cy up", "ann up 5000, |ann up 5000",
            "ann up 4999, ann up, |ann up ann",
        )
        # It is asked when the turn is read: these words stand in the turn itself.
        self.wrong(NoName, "ann up 5000, |cy up")
        self.wrongs(BadNumber, "ann up 5000, bob up |5001", "ann up 5000, bob up |0")
        self.wrongs(BadText, "ann up 5000, bob |!", "ann up 5000, bob|")

    def test_what_has_to_stand(self):
        self.wrongs(
            BadText, "|up", "|,", "|3", "|/", "ann|", "ann |3", "ann |,", "ann |bob", "ann up |up", "ann up,|",
            "ann up 3 |3", "ann up 3 |bob up", "ann up 3,|", "ann up ,|, bob up", "ann up|; bob up", "ann up |/",
            "ann up, |/", "ann up 3, |3",
        )

    def test_names(self):
        self.wrongs(NoName, "|cy up", "|cy !", "ann up, |cy", "ann up 3, bob up, |cy")

    def test_read_of_what_is_told(self):
        chance = random.Random(58)
        for _ in range(500):
            book = some_book(chance, 6)
            history = some_history(chance, book, 30)
            text = print_history(book, part_names(book), history)
            self.same(read_history(book, part_names(book), text), history)
            self.same(print_history(book, part_names(book), history), text)

    def test_with_five_thousand_moves(self):
        history = ((UP,) * 2 + ((1, 1),)) * 1666 + (UP, UP)
        text = print_history(BOOK, ("a", "b"), history)
        self.assertGreater(len(text), 20000)
        history = ((UP,) * 40 + ((1, -1),) * 10) * 100
        text = print_history(BOOK, NAMES, history)
        self.assertLess(len(text), 20000)
        self.same(read_history(BOOK, NAMES, text), history)
        for long in ((UP,) * 5000, ((1, -1),) * 2500 + (UP,) * 2500):
            self.same(read_history(BOOK, NAMES, print_history(BOOK, NAMES, long)), long)
        # As many turns as a text holds, and no blank too many.
        many = (UP, (1, 1)) * 1500
        text = print_history(BOOK, ("a", "b"), many)
        self.assertLess(len(text), 20001)
        self.same(read_history(BOOK, ("a", "b"), text), many)

    def test_more_moves_are_told_too(self):
        self.same(print_history(BOOK, NAMES, (UP,) * 6001), "ann up 6001")

    def test_errors_of_printing(self):
        self.refused(BadBook, -1, print_history, None, None, None)
        self.refused(BadNames, -1, print_history, BOOK, None, None)
        self.refused(BadHistory, -1, print_history, BOOK, NAMES, None)
        self.refused(BadHistory, 1, print_history, BOOK, NAMES, (UP, (2, 1)))


class PaperTest(TextRefusals):
    PAPERS = (
        (("spread", (), (UP, UP)), "spread / ann up 2"), (("spread", (UP, UP), ()), "spread ann up 2 /"),
        (("spread", (), ()), "spread /"),
        (("spread", (UP, (1, -1)), ((1, 1),)), "spread ann up, bob down / bob up"), (("bound", ()), "bound"),
        (("rule", ()), "rule"),
        (("bound", ((1, -1),) * 12), "bound bob down 12"), (("rule", (UP, (1, 1))), "rule ann up, bob up"),
    )

    def read(self, text):
        return read_paper(BOOK, NAMES, text)

    def test_the_example_and_others(self):
        for paper, text in self.PAPERS:
            with self.subTest(text):
                self.same(print_paper(BOOK, NAMES, paper), text)
                self.same(print_paper(paper=paper, names=NAMES, book=BOOK), text)
                self.same(read_paper(BOOK, NAMES, text), paper)
                self.same(read_paper(BOOK, NAMES, " " + text + " "), paper)

    def test_what_has_to_stand(self):
        self.wrongs(
            BadText, "|", "|ann up", "|/", "|papers", "|Rule", "spread|", "spread |!", "spread ann up|",
            "spread ann up / |/", "spread ann up |!", "spread / |3", "spread /|, bob up", "bound |/",
            "bound ann up |/ bob up", "rule |rule", "rule |3", "rule ann up,|", "rule ann up, |",
            "spread ann up, |/ bob up", "spread ann |/ ann up", "rule ann up |ann up", "spread / ann up |spread",
            "spread ann up /bob up,|", "spread |3 / ann up",
        )

    def test_questions_of_histories(self):
        self.wrongs(NoName, "spread |cy up / ann", "spread / |cy up", "rule |cy")
        self.wrongs(BadNumber, "bound ann up |0", "spread ann up 5 / bob down |5001")
        self.wrongs(
            TooMany, "bound ann up 5000, |bob up", "spread / ann down 5000, |bob up", "spread ann up 5000, |ann up",
        )
        # Each history may have 5000 moves.
        self.same(self.read("spread ann up 5000 / bob up 5000"), ("spread", (UP,) * 5000, ((1, 1),) * 5000))

    def test_read_of_what_is_told(self):
        chance = random.Random(59)
        for _ in range(500):
            book = some_book(chance, 6)
            word = chance.choice(("spread", "bound", "rule"))
            paper = (word, *(some_history(chance, book) for _ in range(2 if word == "spread" else 1)))
            self.same(read_paper(book, part_names(book), print_paper(book, part_names(book), paper)), paper)
        long = ("spread", ((UP,) * 40 + ((1, -1),) * 10) * 100, (UP,) * 5000)
        self.same(read_paper(BOOK, NAMES, print_paper(BOOK, NAMES, long)), long)

    def test_what_is_no_paper(self):
        for wrong in (
            None, True, 0, "", "rule", (), ("rule",), ("bound",), ("spread",), ("spread", ()), ("spread", (), (), ()),
            ("rule", (), ()),
            ("bound", (), ()), ("Rule", ()), ("", ()), (None, ()), (0, ()), ((), ()), ((),), ("rule", None),
            ("rule", UP), ("rule", 0),
            ("rule", "ab"), ("rule", [UP]), ["rule", (UP,)], ("spread", (), None), ("spread", None, ()),
            ("rule", (UP, None)),
            ("rule", ((2, 1),)), ("rule", ((0, 0),)), ("rule", ((0, True),)), ("bound", ((True, 1),)),
            ("spread", (), ((0, 2),)),
            ("rule", nested(0, 48)), nested("rule", 49), (nested("rule", 48), ()), ("rule",) * 9000,
        ):
            with self.subTest(wrong):
                self.refused(BadPaper, -1, print_paper, BOOK, NAMES, wrong)

    def test_values_of_all_forms(self):
        chance = random.Random(591)
        papers = 0
        for _ in range(6000):
            value = (chance.choice(("rule", "bound", "spread")),
                *(some_value(chance, 2) for _ in range(chance.randint(1, 2))))
            right = len(value) == (3 if value[0] == "spread" else 2) and all(
                isinstance(each, tuple) and all(move in ((0, 1), (1, -1)) for move in each) for each in value[1:]
            ) and "True" not in repr(value) and "False" not in repr(value)
            if right:
                self.same(read_paper(BOOK, NAMES, print_paper(BOOK, NAMES, value)), value)
                papers += 1
            else:
                self.refused(BadPaper, -1, print_paper, BOOK, NAMES, value)
        self.assertGreater(papers, 50)

    def test_errors_of_printing(self):
        self.refused(BadBook, -1, print_paper, None, None, None)
        self.refused(BadNames, -1, print_paper, BOOK, None, None)
        self.refused(BadPaper, -1, print_paper, BOOK, NAMES, None)
