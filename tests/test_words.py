"""What all texts have in common: signs, words, places, and that the first wrong word decides."""

from byhalves.errors import BadBook, BadNames, BadNumber, BadText, NoName
from byhalves.readbooks import read_book, read_history, read_line, read_paper
from byhalves.reader import read_publisher
from refusals import Refusals
from values import nested

BOOK = ((4, 4), ((0,), (1,)))
NAMES = ("ann", "bob")

READERS = {
    read_publisher: "show ann := 1; show bob := 2",
    read_line: "line 1 ann, -2 bob",
    read_history: "ann up 3, bob down",
    read_paper: "spread ann up / bob down",
}


def of_names(reader):
    return lambda text: reader(BOOK, NAMES, text)


class WordCase(Refusals):
    def readers(self):
        """Each reader as a function of the text alone, with a text that it reads."""
        yield read_book, "parts ann 4, bob 4; links ann: bob"
        for reader, text in READERS.items():
            yield of_names(reader), text


class TextTest(WordCase):
    def test_what_is_no_text(self):
        for reader, _ in self.readers():
            for wrong in (None, True, False, 0, 7, (), ("line 1 ann",), b"line 1 ann", nested("a", 49), ["line"], {}):
                with self.subTest(reader, wrong=wrong):
                    self.refused(BadText, -1, reader, wrong)

    def test_every_sign(self):
        for reader, text in self.readers():
            for code in list(range(0x180)) + [0x2003, 0x3000, 0x663, 0x1F600, 0x10FFFF]:
                sign = "".join(map(chr, (code,)))
                if not 32 <= code <= 126 or code == 37:
                    with self.subTest(code):
                        # Such a sign is refused ahead of each wrong word.
                        self.refused(BadText, 0, reader, sign)
                        self.refused(BadText, 1, reader, " " + sign)
                        self.refused(BadText, len(text), reader, text + sign)
                        self.refused(BadText, 3, reader, "!!!" + sign + sign)
                        self.refused(BadText, 5, reader, text[:5] + sign + text[5:])

    def test_all_other_signs_are_words(self):
        for reader, text in self.readers():
            for code in range(32, 127):
                sign = "".join(map(chr, (code,)))
                if code != 37:
                    # No sign is refused by itself, so the word ahead of it is.
                    self.refused(BadText, 0, reader, "! " + sign)
            for code in range(33, 127):
                sign = "".join(map(chr, (code,)))
                if code != 37 and not sign.islower() and not sign.isdigit():
                    place = len(text) + 1
                    goes_on = {"show": "+-*/;", "parts": ",;"}.get(text.split()[0], ",")
                    self.refused(BadText, place + 1 if sign in goes_on else place, reader, text + " " + sign)

    def test_twenty_thousand_signs(self):
        for reader, text in self.readers():
            with self.subTest(text):
                long = text + " " * (20000 - len(text))
                self.same(reader(long), reader(text))
                self.refused(BadText, 20000, reader, long + " ")
                self.refused(BadText, 20000, reader, long + "\n")
                self.refused(BadText, 20000, reader, " " * 19990 + "!!!!!!!!!!!!!!!")
                self.refused(BadText, 19999, reader, long[:-1] + "\n" + "  ")
                self.refused(BadText, 20000, reader, "a" * 100000)
                self.refused(BadText, 3, reader, "par\t" + "a" * 100000)

    def test_twenty_thousand_signs_to_the_last_word(self):
        for reader, text in self.readers():
            self.same(reader(" " * (20000 - len(text)) + text), reader(text))
            self.refused(BadText, 20000, reader, " " * (20001 - len(text)) + text)


class PlaceTest(WordCase):
    def test_the_end_of_the_text(self):
        for reader, text in self.readers():
            end = len(text)
            with self.subTest(text):
                self.refused(BadText, end + 1, reader, text + (";" if text.startswith(("parts", "show")) else ","))
                self.refused(BadText, end + 6, reader, text + (" ;    " if text.startswith(("parts",
                    "show")) else " ,    "))
        for reader in (read_book, of_names(read_line), of_names(read_paper)):
            self.refused(BadText, 0, reader, "")
            self.refused(BadText, 3, reader, "   ")
        self.same(read_history(BOOK, NAMES, "  "), ())
        self.same(read_publisher(BOOK, NAMES, "  "), ((), (), ()))

    def test_a_word_behind_the_end(self):
        for reader, text in self.readers():
            for wrong in ("x", "00", "(", "parts", ":=", "!", "9a", "link", "and"):
                with self.subTest(text, wrong=wrong):
                    self.refused(BadText, len(text) + 2, reader, text + "  " + wrong)
        # A figure word can stand behind the last turn of a history, a name cannot.
        self.refused(BadText, 7, of_names(read_history), "ann up bob")

    def test_blanks_part_words_and_nothing_else(self):
        self.same(read_line(BOOK, NAMES, "  line 1 ann "), (1, 0))
        self.same(read_line(BOOK, NAMES, "line 1 ann,2 bob"), (1, 2))
        self.same(read_line(BOOK, NAMES, "line   1   ann  ,  -   2   bob  "), (1, -2))
        self.same(read_book("parts ann 4,bob 4;links ann:bob"), read_book("parts ann 4 , bob 4 ; links ann : bob"))
        self.same(read_publisher(BOOK, NAMES, "show ann:=(1+2)*truth[ann]/way-3"),
                  read_publisher(BOOK, NAMES, "show ann := ( 1 + 2 ) * truth [ ann ] / way - 3"))
        self.refused(BadText, 0, read_line, BOOK, NAMES, "line1 ann")
        self.refused(BadText, 5, read_line, BOOK, NAMES, "line 1ann")
        self.refused(BadText, 9, read_publisher, BOOK, NAMES, "show ann : = 1")
        self.refused(BadText, 9, read_publisher, BOOK, NAMES, "show ann = 1")
        self.refused(BadText, 8, read_publisher, BOOK, NAMES, "show ann::=1")
        self.refused(BadText, 10, read_publisher, BOOK, NAMES, "show ann:==1")

    def test_words_of_two_signs_go_ahead(self):
        # ":=" is one word, so no ":" stands here.
        self.refused(BadText, 22, read_book, "parts ann 4; links ann:=ann")
        self.refused(BadText, 23, read_book, "parts ann 4; links ann::=ann")
        self.refused(BadText, 24, read_book, "parts ann 4; links ann: =ann")


class KindTest(WordCase):
    def history(self, place, text):
        self.refused(BadText, place, read_history, BOOK, NAMES, text)

    def test_figure_words(self):
        for right, number in (("1", 1), ("7", 7), ("10", 10), ("5000", 5000)):
            self.same(read_history(BOOK, NAMES, "ann up " + right), ((0, 1),) * number)
        for out in ("0", "5001", "9999999", "1000000"):
            self.refused(BadNumber, 7, read_history, BOOK, NAMES, "ann up " + out)
        for wrong in ("00", "01", "007", "10000000", "99999999", "1" * 1000, "1a", "a1", "-1", "+1", "1.0", "1 1",
            "0x1"):
            with self.subTest(wrong):
                self.history(9 if wrong == "1 1" else 8 if wrong == "1.0" else 7, "ann up " + wrong)

    def test_figure_words_that_can_stand_are_asked_their_own_question(self):
        self.refused(BadNumber, 5, read_line, BOOK, NAMES, "line 0 ann")
        self.refused(BadNumber, 5, read_line, BOOK, NAMES, "line 9999999 cy")
        self.refused(BadText, 5, read_line, BOOK, NAMES, "line 10000000 ann")
        self.refused(BadText, 5, read_line, BOOK, NAMES, "line 01 ann")

    def test_names(self):
        for wrong in ("abcdefghijklm", "a" * 20, "1ann", "Ann", "Nann", "up", "line", "it", "and", "parts", "rule",
            "_a"):
            with self.subTest(wrong):
                self.refused(BadText, 7, read_line, BOOK, NAMES, "line 1 " + wrong)
        for none in ("abcdefghijkl", "a", "an", "anna", "ann1", "z9", "publisher", "audit", "feed"):
            with self.subTest(none):
                self.refused(NoName, 7, read_line, BOOK, NAMES, "line 1 " + none)
        self.same(read_line(BOOK, ("abcdefghijkl", "a1"), "line 1 a1, 2 abcdefghijkl"), (2, 1))
        # A capital letter is a word by itself.
        self.refused(NoName, 7, read_line, BOOK, NAMES, "line 1 aNn")
        self.refused(BadText, 10, read_line, BOOK, NAMES, "line 1 annN")

    def test_reserved_words(self):
        for wrong in ("Up", "upp", "u", "uP", "updown", "up1", "1up"):
            with self.subTest(wrong):
                self.history(4, "ann " + wrong)
        for reserved in ("parts", "by", "spread", "mod"):
            self.history(0, reserved)

    def test_words_that_cannot_stand_anywhere(self):
        for wrong in ("9a", "00", "abcdefghijklm", "12345678", "A", "!", "#", "&", "'", "\"", "@", "\\", "^", "_",
            "`", "|", "~",
                      "?", ">", "$", "."):
            for reader, text in self.readers():
                with self.subTest(wrong, text=text):
                    self.refused(BadText, 0, reader, wrong)
                    self.refused(BadText, 1, reader, " " + wrong + " " + text)
                    self.refused(BadText, len(text) + 1, reader, text + " " + wrong)


class FirstTest(WordCase):
    def test_the_first_wrong_word_decides(self):
        for error, what, text in (
            (NoName, 7, "line 1 cy, 0 !"), (BadNumber, 5, "line 0 cy, !"), (BadText, 7, "line 1 ! 0 cy"),
            (BadText, 11, "line 1 ann 0 cy"), (BadNumber, 12, "line 1 ann, 21 !"),
        ):
            with self.subTest(text):
                self.refused(error, what, read_line, BOOK, NAMES, text)

    def test_whether_a_word_can_stand_is_asked_ahead_of_its_own_question(self):
        self.refused(BadText, 4, read_history, BOOK, NAMES, "ann 9999")
        self.refused(BadText, 4, read_history, BOOK, NAMES, "ann cy")
        self.refused(BadText, 5, read_line, BOOK, NAMES, "line cy")
        self.refused(BadText, 7, read_line, BOOK, NAMES, "line 1 99")
        self.refused(BadText, 6, read_line, BOOK, NAMES, "line -ann")

    def test_arguments_ahead_of_the_text(self):
        for reader in READERS:
            with self.subTest(reader):
                self.refused(BadBook, -1, reader, None, None, None)
                self.refused(BadBook, (1, 0), reader, ((4,), ((),)), None, None)
                self.refused(BadNames, -1, reader, BOOK, None, None)
                self.refused(BadNames, 1, reader, BOOK, ("ann", "ann"), None)
                self.refused(BadNames, 0, reader, BOOK, ("Ann", "bob"), "!")
                self.refused(BadText, -1, reader, BOOK, NAMES, None)
                self.same(reader(text=READERS[reader], names=NAMES, book=BOOK), reader(BOOK, NAMES, READERS[reader]))
        self.same(read_book(text="parts a 1"), (("a",), ((1,), ((0,),))))
