import random

from byhalves.books import made_book, made_line, plain
from byhalves.errors import Broken, Refused
from byhalves.halves import halves
from byhalves.moves import made_history
from byhalves.packings import reach
from byhalves.papers import paper_right
from byhalves.runs import run, stray, within
from byhalves.tables import table_player
from players import Scripted, Still
from refusals import Refusals
from values import nested, some_book, some_halves, some_history, some_line, some_table, some_value

BOOK = plain((2, 2))
TOTAL = (1, 1)
UP = (0, 1)
DOWN = (0, -1)


def right_by_words(book, line, player, bound, paper):
    """What [14] and [15] say, in words of [6] and [9]."""
    try:
        made_line(book, line)
        if type(bound) is not int or not 0 <= bound <= 10000 or type(paper) is not tuple or not paper:
            return False
        for history in paper[1:]:
            made_history(book, history)
    except Refused:
        return False
    try:
        if paper[0] == "spread" and len(paper) == 3:
            first, second = [stray(book, line, run(book, player, history)) for history in paper[1:]]
            return first - second >= reach(book, line)
        if paper[0] == "bound" and len(paper) == 2:
            return within(book, player, paper[1], bound) == len(paper[1]) - 1
    except Broken:
        return False
    if paper[0] == "rule" and len(paper) == 2:
        try:
            run(book, player, paper[1])
        except Broken as error:
            return error.what == len(paper[1]) - 1
    return False


class PaperTest(Refusals):
    def right(self, *given, **named):
        self.assertIs(paper_right(*given, **named), True)

    def wrong(self, *given, **named):
        self.assertIs(paper_right(*given, **named), False)


class ExamplesTest(PaperTest):
    def test_spread(self):
        player = halves(BOOK, (1, 1))
        self.right(BOOK, TOTAL, player, 1, ("spread", ((0, 1), (1, 1)), ()))
        self.wrong(BOOK, TOTAL, player, 1, ("spread", (), ((0, 1), (1, 1))))
        self.wrong(BOOK, TOTAL, player, 1, ("bound", ((0, 1),)))

    def test_bound(self):
        self.right(BOOK, TOTAL, Still(), 1, ("bound", (UP, UP)))
        self.wrong(BOOK, TOTAL, Still(), 1, ("bound", (UP, UP, UP)))
        self.wrong(BOOK, TOTAL, Still(), 1, ("rule", ()))

    def test_rule(self):
        stay = (((1, 1),), 0)
        player = table_player(BOOK, ((stay,) * 4,))
        self.right(BOOK, TOTAL, player, 1, ("rule", (DOWN,)))
        self.wrong(BOOK, TOTAL, player, 1, ("rule", ((1, 1),)))

    def test_arguments_by_name(self):
        paper = ("bound", (UP, UP))
        self.right(paper=paper, bound=1, player=Still(), line=TOTAL, book=BOOK)


class SpoiltTest(PaperTest):
    """Right papers, and each of them spoilt."""

    def spoilt(self, player, bound, paper, others):
        self.right(BOOK, TOTAL, player, bound, paper)
        for other in others:
            with self.subTest(other):
                self.wrong(BOOK, TOTAL, player, bound, other)

    def test_spread(self):
        first, second = (UP, (1, 1)), ()
        self.spoilt(halves(BOOK, (1, 1)), 1, ("spread", first, second), (
            ("bound", first, second), ("rule", first, second), ("Spread", first, second), ("", first, second),
            ("spread", second, first), ("spread", first), ("spread", first, second, ()), (first, second),
            ("spread", first, first), ("spread", (UP,), second), ("spread", ((1, 1),), second),
            ("spread", (UP, UP, (1, 1)), second), ("spread", first, (UP,)),
            ("spread", first, None), ("spread", None, second), ("spread", first, (UP, None)),
            ("spread", (UP, (2, 1)), second), ("spread", (UP, (1, True)), second), ("spread", (UP, (1, 2)), second),
        ))

    def test_bound(self):
        self.spoilt(Still(), 2, ("bound", (UP, UP, UP)), (
            ("rule", (UP, UP, UP)), ("spread", (UP, UP, UP)), ("bounds", (UP, UP, UP)), (0, (UP, UP, UP)),
            ("bound",), ("bound", (UP, UP, UP), ()), ("bound", (), (UP, UP, UP)), ("bound", UP, UP, UP),
            ("bound", (UP, UP)), ("bound", (UP,) * 4), ("bound", (UP, DOWN, UP, UP)), ("bound", ()),
            ("bound", None), ("bound", (UP, UP, 1)), ("bound", (UP, UP, (0, 0))), ("bound", "aaa"),
        ))

    def test_rule(self):
        player = Scripted(((), ((1, 1),), (), None))
        self.spoilt(player, 0, ("rule", ((1, 1), (1, -1), (0, 1), (1, 1))), (
            ("bound", ((1, 1), (1, -1), (0, 1), (1, 1))), ("spread", ((1, 1), (1, -1), (0, 1), (1, 1))),
            ("spread", ((1, 1), (1, -1), (0, 1), (1, 1)), ()), ("RULE", ((1, 1), (1, -1), (0, 1), (1, 1))),
            ("rule", ((1, 1), (1, -1), (0, 1))), ("rule", ((1, 1), (1, -1))), ("rule", ((1, 1),)), ("rule", ()),
            ("rule", ((1, 1), (0, -1), (0, 1), (1, 1))), ("rule", ((1, 1), (1, -1), (0, 1), (1, 1), (1, 1))),
            ("rule", ((1, 1), (1, -1), (0, 1), (2, 1))), ("rule",), ("rule", ((1, 1), (1, -1), (0, 1), (1, 1)), ()),
        ))
        self.right(BOOK, TOTAL, player, 0, ("rule", ((1, 1), (0, -1))))


class BoundTest(PaperTest):
    def test_beyond_it_ahead_of_the_last_move(self):
        player = Scripted((((0, 2),), ((0, -2),), ((0, 2),)))
        self.right(BOOK, TOTAL, player, 2, ("bound", (UP,)))
        self.wrong(BOOK, TOTAL, player, 2, ("bound", (UP, DOWN)))
        self.wrong(BOOK, TOTAL, player, 2, ("bound", (UP, DOWN, UP)))

    def test_just_at_it(self):
        for bound in (1, 2, 5):
            self.wrong(BOOK, TOTAL, Still(), bound, ("bound", (DOWN,) * bound))
            self.right(BOOK, TOTAL, Still(), bound, ("bound", (DOWN,) * (bound + 1)))
        self.right(BOOK, TOTAL, Still(), 0, ("bound", (UP,)))
        self.right(BOOK, TOTAL, Still(), 10000, ("bound", (UP,) * 10001))

    def test_a_part_that_did_not_move(self):
        linked = ((2, 2), ((0, 1), (1,)))
        self.right(linked, TOTAL, Scripted((((1, -2),),)), 3, ("bound", (UP,)))
        self.wrong(linked, TOTAL, Scripted((((1, -2),),)), 4, ("bound", (UP,)))

    def test_a_last_move_that_is_broken(self):
        self.wrong(BOOK, TOTAL, Scripted(((), None)), 1, ("bound", (UP, UP)))
        self.wrong(BOOK, TOTAL, Scripted(((), ((0, 9), (1, 9)))), 1, ("bound", (UP, UP)))

    def test_a_broken_move_on_the_way(self):
        self.wrong(BOOK, TOTAL, Scripted((None,)), 1, ("bound", (UP, UP)))

    def test_the_line_does_not_count(self):
        self.right(BOOK, (0, 1), Still(), 1, ("bound", (UP, UP)))
        self.wrong(BOOK, TOTAL, Still(), 1, ("bound", (UP, (1, 1))))


class RuleTest(PaperTest):
    def test_broken_at_its_last_move(self):
        for told in (None, [], (None,), ((0, 0),), ((1, 1),), ((0, True),), ((0, 1), (0, 1))):
            with self.subTest(told):
                self.right(BOOK, TOTAL, Scripted(((), told)), 5, ("rule", (UP, UP)))
                self.wrong(BOOK, TOTAL, Scripted((told, told)), 5, ("rule", (UP, UP)))
                self.wrong(BOOK, TOTAL, Scripted(((), (), told)), 5, ("rule", (UP, UP)))

    def test_bounds_are_not_asked(self):
        self.right(BOOK, TOTAL, Scripted(((), (), (), None)), 0, ("rule", (UP,) * 4))


class SpreadTest(PaperTest):
    def test_by_the_reach_just_and_more_and_less(self):
        book, line = plain((4,)), (2,)
        for first, right in ((3, False), (4, True), (5, True), (60, True)):
            for second in (0, 3, -7):
                with self.subTest(first, second=second):
                    # The reach is 6, and each move lowers the line by 2.
                    paper = ("spread", (UP,) * 3 + (DOWN,) * 3, (UP,) * 3)
                    self.right(book, line, Still(), 1, paper)
                    moves = ((DOWN,) * max(0, second), (UP,) * max(0, -second))
                    ahead = moves[0] + moves[1]
                    self.assertIs(
                        paper_right(book, line, Still(), 9, ("spread", ahead + (DOWN,) * (first - 1), ahead)), right
                    )

    def test_a_reach_of_nought(self):
        book = plain((1, 1))
        self.right(book, TOTAL, Still(), 0, ("spread", (), ()))
        self.right(book, TOTAL, Still(), 0, ("spread", (DOWN,), (DOWN,)))
        self.right(book, TOTAL, Still(), 0, ("spread", (DOWN,), ()))
        self.wrong(book, TOTAL, Still(), 0, ("spread", (UP,), ()))

    def test_an_empty_history(self):
        self.right(BOOK, TOTAL, Still(), 0, ("spread", (), (UP, (1, 1))))
        self.right(BOOK, TOTAL, Still(), 0, ("spread", (DOWN, (1, -1)), ()))
        self.wrong(BOOK, TOTAL, Still(), 0, ("spread", (), ()))

    def test_a_broken_move_in_one_history(self):
        # The answers are such that the line goes far down, or far up, and then the rule is broken.
        down, up = Scripted((((0, -9),), None)), Scripted((((0, 9),), None))
        self.right(BOOK, TOTAL, down, 1, ("spread", (), (UP,)))
        self.wrong(BOOK, TOTAL, down, 1, ("spread", (), (UP, UP)))
        self.right(BOOK, TOTAL, up, 1, ("spread", (UP,), ()))
        self.wrong(BOOK, TOTAL, up, 1, ("spread", (UP, UP), ()))
        self.wrong(BOOK, TOTAL, Scripted((((0, 9),), ((1, 1),))), 1, ("spread", (UP, UP), ()))

    def test_bounds_are_not_asked(self):
        self.right(BOOK, TOTAL, Still(), 0, ("spread", (DOWN,) * 50, (UP,) * 50))


class FormsTest(PaperTest):
    def test_no_book(self):
        for book in (None, 0, "book", (), ((2, 2), ((0,), (0,))), ((2, 0), ((0,), (1,))), ((2, True), ((0,), (1,)))):
            with self.subTest(book):
                self.wrong(book, TOTAL, Still(), 0, ("bound", (UP,)))
                self.wrong(book, None, Still(), None, None)

    def test_no_line(self):
        for line in (None, 1, "ab", (), (1,), (1, 1, 1), (0, 0), (1, 21), (True, 1), (1, "1")):
            with self.subTest(line):
                self.wrong(BOOK, line, Still(), 0, ("bound", (UP,)))

    def test_no_bound(self):
        self.right(BOOK, TOTAL, Still(), 0, ("bound", (UP,)))
        for bound in (-1, 10001, True, False, None, "1", (), (1,), 10 ** 900):
            with self.subTest(bound):
                self.wrong(BOOK, TOTAL, Still(), bound, ("bound", (UP,)))
                self.wrong(BOOK, TOTAL, Still(), bound, ("spread", (DOWN, (1, -1)), ()))
                self.wrong(BOOK, TOTAL, Scripted((None,)), bound, ("rule", (UP,)))

    def test_no_paper(self):
        deep = nested("rule", 49)
        for paper in (
            None, True, 0, "", "rule", (), ("rule",), ((),), (None,), (("rule",),), deep, ("rule", deep), (deep, ()),
            ("spread", deep, deep), ["rule", (UP,)], ("rule", [UP]), ("rule", ([0, 1],)), (["rule"], (UP,)),
            ([], []), [], ("spread", [], []), [[]], ("rule", "ab"), ("spread", "", ""), (0, ()), (None, (), ()),
            ((), (UP,)), ("rule", ((0, 1, 1),)), ("rule", (("0", 1),)), ("rule", ((0, 1.0),)), {"rule": (UP,)},
        ):
            with self.subTest(paper):
                self.wrong(BOOK, TOTAL, Scripted((None,)), 1, paper)

    def test_a_long_paper(self):
        self.wrong(BOOK, TOTAL, Scripted((None,)), 1, ("rule",) * 10000)
        self.wrong(BOOK, TOTAL, Scripted((None,)), 1, ("rule", (UP,) * 3332))
        self.right(BOOK, TOTAL, Scripted(((),) * 3331 + (None,)), 1, ("rule", (UP,) * 3332))

    def test_values_of_all_forms(self):
        chance = random.Random(14)
        rights = 0
        for _ in range(6000):
            pieces = (some_value(chance), some_value(chance), some_value(chance))
            paper = chance.choice((pieces, pieces[:2], pieces[0], (chance.choice(("rule", "bound")), pieces[1])))
            bound = chance.choice((0, 1, 1, 1, True, None))
            player = Scripted((((0, 1),), None))
            told = paper_right(BOOK, TOTAL, player, bound, paper)
            self.assertIs(told, right_by_words(BOOK, TOTAL, player, bound, paper), paper)
            rights += told
        self.assertGreater(rights, 10)


class AskedTest(PaperTest):
    def test_papers_by_chance(self):
        chance = random.Random(15)
        rights = {"spread": 0, "bound": 0, "rule": 0}
        for _ in range(6000):
            book = made_book(some_book(chance, 3))
            line = some_line(chance, book)
            player = chance.choice((
                Still(), some_halves(chance, book), some_table(chance, book), some_table(chance, book, breaks=True)
            ))
            word = chance.choice(("spread", "bound", "rule"))
            histories = [some_history(chance, book, 5) for _ in range(2 if word == "spread" else 1)]
            bound = chance.randint(0, 4)
            told = paper_right(book, line, player, bound, (word, *histories))
            with self.subTest(book, line=line, bound=bound, paper=(word, *histories)):
                self.assertIs(told, right_by_words(book, line, player, bound, (word, *histories)))
            rights[word] += told
        self.assertGreater(min(rights.values()), 20)

    def test_copies_alone_are_asked_from_the_beginning(self):
        player = Scripted((((0, 1),), ((1, 1),), ()))
        paper = ("spread", (UP, (1, 1)), (UP, (1, 1), (0, 1), (0, 1), (1, 1)))
        self.right(BOOK, TOTAL, player, 1, paper)
        self.assertEqual(player.calls, [*paper[1], *paper[2]])
        self.assertEqual(player.at, 0)
        self.right(BOOK, TOTAL, player, 1, paper)

    def test_the_player_goes_on_from_where_it_stands(self):
        player = halves(BOOK, (1, 1))
        player.moved(0, 1)
        for _ in range(2):
            self.right(BOOK, (1, 0), player, 0, ("spread", (), (DOWN,)))
        self.wrong(BOOK, (1, 0), halves(BOOK, (1, 1)), 0, ("spread", (), (DOWN,)))

    def test_nothing_of_another_form_is_asked(self):
        player = Scripted((None,))
        self.wrong(BOOK, TOTAL, player, 1, ("spread", (UP,), ((2, 1),)))
        self.wrong(BOOK, TOTAL, player, True, ("rule", (UP,)))
        self.assertEqual(player.calls, [])
