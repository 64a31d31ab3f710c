import random

from byhalves.books import plain
from byhalves.breaker import breaker
from byhalves.desk import Desk
from byhalves.errors import (
    BadBook, BadBound, BadHistory, BadIndex, BadLine, BadName, BadNames, BadPublisher, Broken, NoWord, TooLarge,
    TooMany, Twice,
)
from byhalves.feeds import Feed
from byhalves.logs import audit
from byhalves.packings import off, reach
from byhalves.papers import paper_right
from byhalves.programs import program
from byhalves.reports import report
from programming import part_names, some_publisher
from refusals import Refusals
from values import nested, some_book, some_line

BOOK = ((4, 4), ((0,), (1,)))
NAMES = ("ann", "bob")
MOVED = ("moved",)
HALVES = ((), (), (("show", MOVED, ("div", ("add", ("mul", ("num", 2), ("truth", MOVED)), ("steps", MOVED)),
                                    ("mul", ("num", 2), ("steps", MOVED)))),))
SILENT = ((), (), ())
OUTSIDE = ((), (), (("show", ("part", 0), ("add", ("shown", ("part", 0)), ("num", 1))),))
UP = (0, 1)

NO_NAMES = (
    None, True, 0, (), ("a",), "", "A", "1a", "a b", "a" * 13, "it", "line", "spread", "parts", "rule", "a:", " a",
    "a_b", ("half",),
)


class DeskCase(Refusals):
    def desk(self):
        desk = Desk(NAMES, BOOK)
        desk.publisher("half", HALVES)
        desk.publisher("still", SILENT)
        desk.line("sum", (1, 1))
        desk.begin("f", "half")
        return desk

    def all_told(self, desk):
        """What a desk tells of the words of these tests."""
        told = []
        for word in ("f", "g", "half", "still", "sum", "x", "publisher"):
            for ask in (
                lambda: desk.report(word), lambda: desk.wrongs(word, 1), lambda: desk.off(word),
                lambda: desk.spread(word),
                lambda: desk.paper(word, "sum", 3), lambda: desk.paper("half", word, 3),
                lambda: desk.feed(word).editions(),
                lambda: [desk.feed(word).history(number + 1) for number in range(desk.feed(word).editions())],
            ):
                try:
                    told.append(ask())
                except NoWord:
                    told.append(None)
        return told


class BeginTest(DeskCase):
    def test_names_and_book(self):
        desk = Desk(book=BOOK, names=NAMES)
        self.refused(NoWord, "f", desk.feed, "f")
        # The book is asked ahead of the names, though it stands behind them.
        self.refused(BadBook, -1, Desk, None, None)
        self.refused(BadBook, (1, 0), Desk, NAMES, ((4, 4), ((1,), (1,))))
        for wrong in (None, (), ("ann",), ("ann", "bob", "cy"), "ab"):
            self.refused(BadNames, -1, Desk, wrong, BOOK)
        self.refused(BadNames, 1, Desk, ("ann", "it"), BOOK)
        self.refused(BadNames, 1, Desk, ("ann", "ann"), BOOK)

    def test_arguments_by_name(self):
        desk = Desk(names=NAMES, book=BOOK)
        self.assertIsNone(desk.publisher(publisher=HALVES, word="half"))
        self.assertIsNone(desk.line(line=(1, 1), word="sum"))
        self.assertIsNone(desk.begin(word="half", feed="f"))
        self.assertIsInstance(desk.feed(word="f"), Feed)
        self.same(len(desk.report(word="f")), 3)
        self.same(desk.wrongs(bound=0, word="f"), ())
        self.same(desk.paper(bound=2, line="sum", word="half")[0], "spread")
        self.same((desk.off(line="sum"), desk.spread(line="sum")), (3, 6))
        self.same(desk.row(text="off sum"), "3")


class KeepTest(DeskCase):
    def test_a_word_that_is_put_anew(self):
        desk = self.desk()
        desk.publisher("half", SILENT)
        desk.line("sum", (3, 0))
        self.same(desk.paper("half", "sum", 2), breaker(BOOK, (3, 0), program(BOOK, NAMES, SILENT), 2))
        self.same((desk.off("sum"), desk.spread("sum")), (off(BOOK, (3, 0)), reach(BOOK, (3, 0))))

    def test_twenty_publishers(self):
        desk = Desk(NAMES, BOOK)
        for number in range(20):
            desk.publisher(f"p{number}", SILENT)
        for word in ("p20", "x"):
            self.refused(TooMany, 21, desk.publisher, word, HALVES)
            self.refused(NoWord, word, desk.paper, word, "sum", 1)
            self.refused(BadPublisher, (-1,), desk.publisher, word, None)
        desk.publisher("p7", HALVES)
        desk.line("sum", (1, 1))
        self.same(desk.paper("p7", "sum", 2)[0], "spread")
        self.same(desk.paper("p8", "sum", 2)[0], "bound")
        self.refused(BadName, "it", desk.publisher, "it", HALVES)

    def test_twenty_lines(self):
        desk = Desk(NAMES, BOOK)
        for number in range(20):
            desk.line(f"l{number}", (number + 1, 0))
        for word in ("l20", "x"):
            self.refused(TooMany, 21, desk.line, word, (1, 1))
            self.refused(NoWord, word, desk.off, word)
            self.refused(BadLine, 0, desk.line, word, (0, 0))
        desk.line("l7", (0, 1))
        self.same([desk.spread(f"l{number}") for number in (6, 7, 8)], [21, 3, 27])
        # Publishers and lines are counted each by themselves.
        desk.publisher("x", SILENT)

    def test_one_word_for_all_three(self):
        desk = Desk(NAMES, BOOK)
        desk.publisher("half", HALVES)
        desk.line("half", (1, 1))
        desk.begin("half", "half")
        self.same((desk.off("half"), desk.feed("half").editions()), (3, 1))
        # Words of rows may be words of publishers and lines, and most of them of feeds.
        for word in ("publisher", "open", "break", "off", "report", "audit", "correct"):
            desk.publisher(word, HALVES)
            desk.line(word, (1, 1))
        for word in ("report", "audit", "correct"):
            desk.begin(word, "open")

    def test_words_that_are_no_names(self):
        desk = self.desk()
        before = self.all_told(desk)
        for wrong in NO_NAMES:
            with self.subTest(wrong):
                self.refused(BadName, wrong, desk.publisher, wrong, None)
                self.refused(BadName, wrong, desk.publisher, wrong, SILENT)
                self.refused(BadName, wrong, desk.line, wrong, None)
                self.refused(BadName, wrong, desk.line, wrong, (1, 1))
                self.refused(BadName, wrong, desk.begin, wrong, "half")
                self.refused(BadName, wrong, desk.begin, wrong, "x")
        self.same(self.all_told(desk), before)

    def test_what_is_kept_is_checked(self):
        desk = self.desk()
        before = self.all_told(desk)
        self.refused(BadPublisher, (-1,), desk.publisher, "half", None)
        self.refused(BadPublisher, (2, (0,)), desk.publisher, "half", ((), (), (None,)))
        self.refused(BadPublisher, (0, 0), desk.publisher, "half", ((("bob", 0),), (), ()))
        show = ("show", MOVED, ("num", 1))
        self.refused(TooMany, 101, desk.publisher, "half", ((), (), (("each", (show,) * 30),) * 4))
        self.refused(BadLine, -1, desk.line, "sum", None)
        self.refused(BadLine, 1, desk.line, "sum", (1, 21))
        self.refused(BadLine, 0, desk.line, "sum", (0, 0))
        self.same(self.all_told(desk), before)


class FeedTest(DeskCase):
    def test_the_feed_of_a_word(self):
        desk = self.desk()
        feed = desk.feed("f")
        self.assertIsInstance(feed, Feed)
        self.assertIs(desk.feed("f"), feed)
        feed.move(0, 1, 3)
        self.same(desk.feed("f").state(), ((3, 0), (1, 0)))
        self.same(desk.report("f")[0], "ann shown 1 true 3/4 off 1/4")

    def test_it_goes_on_with_the_publisher_that_it_was_begun_with(self):
        desk = self.desk()
        desk.feed("f").move(0, 1)
        desk.publisher("half", SILENT)
        desk.feed("f").move(0, 1)
        self.same(desk.feed("f").state(), ((2, 0), (1, 0)))
        desk.feed("f").correct(0, (UP, UP, UP, UP, UP))
        self.same(desk.feed("f").state(), ((6, 0), (2, 0)))
        desk.begin("g", "half")
        desk.feed("g").move(0, 1, 3)
        self.same(desk.feed("g").state(), ((3, 0), (0, 0)))

    def test_feeds_do_not_touch_each_other(self):
        desk = self.desk()
        desk.begin("g", "half")
        desk.feed("f").move(0, 1, 3)
        self.same((desk.feed("g").history(), desk.feed("g").editions()), ((), 1))
        desk.feed("g").move(1, -1)
        self.same(desk.feed("f").history(), (UP,) * 3)

    def test_ten_feeds(self):
        desk = self.desk()
        for number in range(9):
            desk.begin(f"g{number}", "half")
        self.refused(TooMany, 11, desk.begin, "g", "half")
        self.refused(TooMany, 11, desk.begin, "g", "still")
        self.refused(NoWord, "g", desk.feed, "g")
        self.refused(Twice, "f", desk.begin, "f", "half")
        self.refused(NoWord, "x", desk.begin, "g", "x")
        self.refused(NoWord, "x", desk.begin, "f", "x")
        self.refused(BadName, "open", desk.begin, "open", "x")
        desk.feed("g8").move(0, 1)

    def test_words_of_rows(self):
        desk = self.desk()
        for word in ("publisher", "open", "line", "break", "off", "spread"):
            self.refused(BadName, word, desk.begin, word, "half")
            self.refused(BadName, word, desk.begin, word, "x")

    def test_errors_in_their_order(self):
        desk = self.desk()
        self.refused(NoWord, "x", desk.begin, "f", "x")
        self.refused(NoWord, "sum", desk.begin, "g", "sum")
        self.refused(NoWord, None, desk.begin, "g", None)
        self.refused(Twice, "f", desk.begin, "f", "still")
        for wrong in ("g", "half", "sum", "", None, 0, True, (), nested("f", 49), ["f"], {}):
            self.refused(NoWord, wrong, desk.feed, wrong)
            self.refused(NoWord, wrong, desk.report, wrong)
            self.refused(NoWord, wrong, desk.wrongs, wrong, None)
            self.refused(NoWord, wrong, desk.wrongs, wrong, 1)
        desk.feed("f").move(0, 1)
        self.same(desk.feed("f").history(), (UP,))


class AskTest(DeskCase):
    def test_lines_are_taken_rising_by_their_words(self):
        desk = self.desk()
        for word, line in (("z", (1, 0)), ("a", (0, 1)), ("m2", (2, 0)), ("m10", (0, 3)), ("a1", (5, 0))):
            desk.line(word, line)
        desk.feed("f").move(0, 1, 3)
        desk.feed("f").move(1, -1, 2)
        # By their words: a, a1, m10, m2, sum, z.
        lines = ((0, 1), (5, 0), (0, 3), (2, 0), (1, 1), (1, 0))
        self.same(desk.report("f"), report(BOOK, NAMES, lines, desk.feed("f").state()))

    def test_against_the_functions(self):
        chance = random.Random(64)
        wrongs = 0
        for _ in range(120):
            book = some_book(chance, 3)
            names = part_names(book)
            publisher, line = some_publisher(chance, book), some_line(chance, book)
            desk = Desk(names, book)
            desk.publisher("p", publisher)
            desk.line("b", line)
            desk.line("a", (1,) * len(book[0]))
            desk.begin("f", "p")
            for _ in range(8):
                try:
                    if chance.random() < 0.7:
                        desk.feed("f").move(chance.randrange(len(names)), chance.choice((1, -1)), chance.randint(1, 4))
                    else:
                        desk.feed("f").correct(0, ())
                except (Broken, BadIndex, BadHistory):
                    pass
            feed, bound = desk.feed("f"), chance.randint(0, 4)
            self.same(desk.report("f"), report(book, names, ((1,) * len(names), line), feed.state()))
            self.same(desk.wrongs("f", bound), audit(book, (), bound, feed.log())[3])
            wrongs += len(desk.wrongs("f", bound))
            self.same(desk.off("b"), off(book, line))
            self.same(desk.spread("b"), reach(book, line))
            paper = desk.paper("p", "b", 2)
            self.same(paper, breaker(book, line, program(book, names, publisher), 2))
            self.assertIs(paper_right(book, line, program(book, names, publisher), 2, paper), True)
        self.assertGreater(wrongs, 100)

    def test_the_last_edition_is_asked(self):
        desk = self.desk()
        desk.feed("f").move(0, 1, 2)
        self.same(desk.wrongs("f", 1), ((1, "stray", 0),))
        desk.feed("f").correct(1, ())
        self.same(desk.wrongs("f", 1), ())
        self.same(desk.report("f")[0], "ann shown 0 true 1/4 off -1/4")

    def test_a_fresh_player_for_each_paper(self):
        desk = self.desk()
        self.same(desk.paper("half", "sum", 3), desk.paper("half", "sum", 3))
        desk.feed("f").move(0, 1, 5)
        self.same(desk.paper("half", "sum", 3), breaker(BOOK, (1, 1), program(BOOK, NAMES, HALVES), 3))
        desk.publisher("outside", OUTSIDE)
        self.same(desk.paper("outside", "sum", 3)[0], "rule")

    def test_bounds(self):
        desk = self.desk()
        for bound in (-1, 10001, True, None, "1"):
            self.refused(BadBound, 0, desk.wrongs, "f", bound)
            self.refused(BadBound, 0, desk.paper, "half", "sum", bound)
        self.same(desk.wrongs("f", 10000), ())
        self.refused(TooLarge, 20002 * 20002, desk.paper, "half", "sum", 10000)

    def test_errors_in_their_order(self):
        desk = self.desk()
        self.refused(NoWord, "x", desk.paper, "x", "y", None)
        self.refused(NoWord, "sum", desk.paper, "sum", "sum", None)
        self.refused(NoWord, "y", desk.paper, "half", "y", None)
        self.refused(NoWord, "half", desk.paper, "half", "half", -1)
        self.refused(BadBound, 0, desk.paper, "half", "sum", None)
        for wrong in ("half", "f", "x", "", None, 0):
            self.refused(NoWord, wrong, desk.off, wrong)
            self.refused(NoWord, wrong, desk.spread, wrong)

    def test_another_book(self):
        desk = Desk(("a",), plain((2,)))
        desk.publisher("p", SILENT)
        desk.line("l", (-3,))
        desk.begin("f", "p")
        desk.feed("f").move(0, -1)
        self.same(desk.report("f"), ("a shown 0 true -1/2 off 1/2", "line 0: shown 0 true 3/2 off -3/2"))
        self.same(desk.paper("p", "l", 1), breaker(plain((2,)), (-3,), program(plain((2,)), ("a",), SILENT), 1))
