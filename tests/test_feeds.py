import random
import time

from byhalves.books import plain
from byhalves.errors import (
    BadBook, BadEdition, BadHistory, BadIndex, BadMany, BadPart, Broken, TooMany,
)
from byhalves.feeds import Feed
from byhalves.halves import halves
from byhalves.logs import log_of
from byhalves.programs import program
from byhalves.runs import run
from players import Scripted, Still
from programming import part_names, some_publisher
from refusals import Refusals
from values import some_book, some_halves, some_history, some_table

BOOK = ((4, 4), ((0,), (1,)))
LINKED = ((4, 10, 3), ((0, 1), (1,), (0, 1, 2)))
UP = (0, 1)
DOWN = (0, -1)
BOB = (1, 1)


class Stubborn:
    """Tells no changes but at a move of part 1 down: there it breaks the rule."""

    def copy(self):
        return Stubborn()

    def moved(self, part, way):
        return None if (part, way) == (1, -1) else ()


class FeedCase(Refusals):
    def halves_feed(self):
        return Feed(BOOK, halves(BOOK, (1, 1)))

    def all_told(self, feed):
        """What all editions tell."""
        numbers = range(1, feed.editions() + 1)
        return [(feed.history(number), feed.state(number), feed.log(number)) for number in numbers]


class ExampleTest(FeedCase):
    def test_the_example(self):
        feed = self.halves_feed()
        self.assertIsNone(feed.move(0, 1, 3))
        self.same(feed.state(), ((3, 0), (1, 0)))
        log = ((UP, ()), (UP, ((0, 1),)), (UP, ()))
        self.same(feed.log(), log)
        self.assertIsNone(feed.correct(1, (BOB, BOB)))
        self.same(feed.editions(), 2)
        self.same(feed.history(2), (UP, BOB, BOB, UP))
        self.same(feed.state(2), ((2, 2), (1, 1)))
        self.same(feed.differences(1, 2), (1,))
        self.same((feed.history(1), feed.state(1), feed.log(1)), ((UP,) * 3, ((3, 0), (1, 0)), log))

    def test_arguments_by_name(self):
        feed = Feed(player=halves(BOOK, (1, 1)), book=BOOK)
        feed.move(many=2, way=1, part=0)
        feed.move(way=-1, part=1)
        feed.correct(moves=(BOB,), index=2)
        self.same(feed.history(edition=None), (UP, UP, BOB))
        self.same(feed.history(edition=1), (UP, UP, (1, -1)))
        self.same(feed.state(edition=1), ((2, -1), (1, 0)))
        self.same(feed.log(edition=2), ((UP, ()), (UP, ((0, 1),)), (BOB, ())))
        self.same(feed.differences(other=2, one=1), ())


class FirstTest(FeedCase):
    def test_the_first_edition(self):
        feed = Feed(LINKED, Scripted((None,)))
        self.same(feed.editions(), 1)
        for edition in (None, 1):
            self.same(feed.history(edition), ())
            self.same(feed.state(edition), ((0, 0, 0), (0, 0, 0)))
            self.same(feed.log(edition), ())
        self.same(feed.differences(1, 1), ())

    def test_the_book(self):
        for wrong in (None, (), ((4, 4), ((0,), (0,)))):
            with self.assertRaises(BadBook):
                Feed(wrong, None)
        self.refused(BadBook, (0, 1), Feed, ((4, 61), ((0,), (1,))), Still())


class MoveTest(FeedCase):
    def test_one_by_one_behind_the_last_edition(self):
        player = Scripted((((0, 1),), (), ((1, -2),), ((0, 3), (1, 3))))
        feed = Feed(LINKED, player)
        feed.move(0, 1)
        feed.move(2, -1, 1)
        feed.move(0, -1, 2)
        self.same(feed.history(), (UP, (2, -1), DOWN, DOWN))
        self.same(feed.log(), ((UP, ((0, 1),)), ((2, -1), ()), (DOWN, ((1, -2),)), (DOWN, ((0, 3), (1, 3)))))
        self.same(feed.state(), ((-1, 0, -1), (4, 1, 0)))
        self.same(feed.editions(), 1)

    def test_many_from_one_to_a_thousand(self):
        feed = self.halves_feed()
        feed.move(1, -1, 1000)
        self.same(feed.state(), ((0, -1000), (0, -250)))
        self.same(len(feed.history()), 1000)
        feed.move(1, -1, 1)
        self.same(len(feed.history()), 1001)
        for many in (0, -1, 1001, 5000, True, False, None, "1", (1,), 10 ** 900):
            with self.subTest(many):
                self.refused(BadMany, many, feed.move, 0, 1, many)
        self.same(len(feed.history()), 1001)

    def test_a_wrong_part(self):
        feed = self.halves_feed()
        for part in (2, -1, True, False, None, "0", (0,), 10 ** 900):
            with self.subTest(part):
                self.refused(BadPart, part, feed.move, part, None, None)
                self.refused(BadPart, part, feed.move, part, 1)

    def test_a_wrong_way(self):
        feed = self.halves_feed()
        for way in (0, 2, -2, True, False, None, "1", (1,)):
            with self.subTest(way):
                self.refused(BadHistory, 0, feed.move, 1, way, None)
                self.refused(BadHistory, 0, feed.move, 1, way)
        self.same(self.all_told(feed), self.all_told(self.halves_feed()))

    def test_five_thousand_moves(self):
        feed = Feed(BOOK, Still())
        for _ in range(4):
            feed.move(0, 1, 1000)
        feed.move(0, 1, 999)
        self.refused(TooMany, 5001, feed.move, 1, 1, 2)
        self.refused(TooMany, 5001, feed.move, 1, 1, 1000)
        self.refused(BadMany, 1001, feed.move, 1, 1, 1001)
        self.same(feed.state(), ((4999, 0), (0, 0)))
        feed.move(1, 1, 1)
        self.same(len(feed.log()), 5000)
        self.refused(TooMany, 5001, feed.move, 1, 1)
        self.refused(TooMany, 5001, feed.move, 1, -1)
        self.same(feed.state(), ((4999, 1), (0, 0)))
        # The newer edition is the one to which moves are put, and it has less of them.
        feed.correct(0, ())
        self.same(len(feed.history()), 4999)
        feed.move(1, 1)
        self.refused(TooMany, 5001, feed.move, 1, 1)

    def test_too_many_ahead_of_broken(self):
        feed = Feed(BOOK, Stubborn())
        for _ in range(5):
            feed.move(0, 1, 1000)
        self.refused(TooMany, 5001, feed.move, 1, -1)

    def test_broken_with_its_index_in_the_whole_history(self):
        answers = [()] * 10
        answers[7] = None
        feed = Feed(BOOK, Scripted(tuple(answers)))
        feed.move(0, 1, 3)
        feed.move(1, 1, 2)
        before = self.all_told(feed)
        for many in (3, 4, 1000):
            self.refused(Broken, 7, feed.move, 0, 1, many)
            self.same(self.all_told(feed), before)
        feed.move(0, 1, 2)
        self.refused(Broken, 7, feed.move, 0, -1)
        self.same(feed.history(), (UP,) * 3 + (BOB,) * 2 + (UP,) * 2)
        self.same(feed.state(), ((5, 2), (0, 0)))

    def test_broken_by_a_part_outside(self):
        feed = Feed(BOOK, Scripted((((0, 1),), ((0, 1),))))
        feed.move(0, 1)
        self.refused(Broken, 1, feed.move, 1, 1)
        self.same(feed.history(), (UP,))
        feed.move(0, 1)
        self.same(feed.state(), ((2, 0), (2, 0)))

    def test_one_broken_move_does_not_hinder_others(self):
        feed = Feed(BOOK, Stubborn())
        feed.move(1, 1)
        self.refused(Broken, 1, feed.move, 1, -1)
        feed.move(1, 1)
        self.refused(Broken, 2, feed.move, 1, -1, 7)
        self.same(feed.history(), (BOB, BOB))

    def test_it_shows_what_a_run_shows(self):
        chance = random.Random(44)
        for _ in range(100):
            book = some_book(chance, 3)
            player = chance.choice((some_halves(chance, book), some_table(chance, book)))
            feed = Feed(book, player)
            history = ()
            for part, way in some_history(chance, book):
                many = chance.choice((1, 1, 2, 5))
                feed.move(part, way, many)
                history += ((part, way),) * many
                self.same(feed.history(), history)
                self.same(feed.state(), run(book, player, history))
                self.same(feed.log(), log_of(book, player, history))


class CorrectTest(FeedCase):
    def moved(self):
        feed = self.halves_feed()
        for move in (UP, UP, BOB, DOWN):
            feed.move(*move)
        return feed

    def test_at_each_index(self):
        history = (UP, UP, BOB, DOWN)
        for index in range(5):
            for moves in ((), (BOB,), (BOB, BOB), (DOWN, (1, -1), UP)):
                with self.subTest(index, moves=moves):
                    feed = self.moved()
                    feed.correct(index, moves)
                    corrected = history[:index] + moves + history[index + 1:]
                    player = halves(BOOK, (1, 1))
                    self.same(feed.editions(), 2)
                    self.same(feed.history(), corrected)
                    self.same(feed.state(), run(BOOK, player, corrected))
                    self.same(feed.log(), log_of(BOOK, player, corrected))
                    self.same(self.all_told(feed)[:1], self.all_told(self.moved()))

    def test_of_nothing(self):
        feed = self.halves_feed()
        feed.correct(0, ())
        self.same((feed.editions(), feed.history()), (2, ()))
        feed.correct(0, (UP,))
        self.same((feed.editions(), feed.history()), (3, (UP,)))
        self.same(self.all_told(feed)[:2], [((), ((0, 0), (0, 0)), ())] * 2)

    def test_of_the_last_edition(self):
        feed = self.moved()
        feed.correct(0, ())
        feed.correct(0, (BOB,))
        self.same([told[0] for told in self.all_told(feed)], [(UP, UP, BOB, DOWN), (UP, BOB, DOWN), (BOB, BOB, DOWN)])

    def test_moves_behind_a_correction(self):
        feed = self.moved()
        before = self.all_told(feed)
        feed.correct(4, (BOB,))
        feed.move(1, 1, 2)
        feed.correct(0, ())
        feed.move(0, -1)
        self.same(self.all_told(feed)[:1], before)
        self.same([told[0] for told in self.all_told(feed)][1:], [
            (UP, UP, BOB, DOWN, BOB, BOB, BOB), (UP, BOB, DOWN, BOB, BOB, BOB, DOWN),
        ])

    def test_a_wrong_index(self):
        feed = self.moved()
        for index in (5, -1, True, False, None, "1", (1,), 10 ** 900):
            with self.subTest(index):
                self.refused(BadIndex, index, feed.correct, index, None)
                self.refused(BadIndex, index, feed.correct, index, ())
        feed.correct(0, ())
        self.refused(BadIndex, 4, feed.correct, 4, ())
        self.same(feed.editions(), 2)

    def test_what_is_no_history(self):
        feed = self.moved()
        for wrong in (None, 0, "", [], [UP], {}):
            self.refused(BadHistory, -1, feed.correct, 0, wrong)
        for what, wrong in ((0, UP), (1, (UP, None)), (0, ((2, 1), None)), (2, (UP, UP, (0, True), UP)),
            (0, ([0, 1],))):
            self.refused(BadHistory, what, feed.correct, 4, wrong)
        self.same(self.all_told(feed), self.all_told(self.moved()))

    def test_fifty_editions(self):
        feed = Feed(BOOK, Stubborn())
        for number in range(2, 51):
            feed.correct(0, (UP,) * number)
            self.same(feed.editions(), number)
        before = self.all_told(feed)
        self.refused(TooMany, 51, feed.correct, 0, ())
        self.refused(TooMany, 51, feed.correct, 0, ((1, -1),))
        self.refused(TooMany, 51, feed.correct, 0, (UP,) * 5001)
        self.refused(BadHistory, -1, feed.correct, 0, None)
        self.same(self.all_told(feed), before)
        feed.move(0, 1)
        self.same(feed.editions(), 50)

    def test_five_thousand_moves(self):
        feed = Feed(BOOK, Stubborn())
        feed.move(0, 1, 10)
        feed.correct(10, (UP,) * 4990)
        self.same(len(feed.history()), 5000)
        self.refused(TooMany, 5001, feed.correct, 5000, (UP,))
        self.refused(TooMany, 5001, feed.correct, 0, (UP, UP))
        self.refused(TooMany, 5001, feed.correct, 5000, ((1, -1),))
        self.same(feed.editions(), 2)
        feed.correct(4999, (BOB,))
        feed.correct(17, ())
        feed.correct(4999, (BOB,))
        self.same((len(feed.history()), feed.editions()), (5000, 5))
        self.refused(TooMany, 5001, Feed(BOOK, Still()).correct, 0, (UP,) * 5001)
        Feed(BOOK, Still()).correct(0, (UP,) * 5000)

    def test_broken_with_its_index_in_the_new_history(self):
        feed = Feed(BOOK, Stubborn())
        feed.move(0, 1, 4)
        before = self.all_told(feed)
        self.refused(Broken, 2, feed.correct, 0, (BOB, BOB, (1, -1), (1, -1)))
        self.refused(Broken, 3, feed.correct, 3, ((1, -1),))
        self.refused(Broken, 4, feed.correct, 4, ((1, -1),))
        self.same(self.all_told(feed), before)

    def test_broken_behind_the_moves_that_were_put(self):
        answers = [()] * 10
        answers[5] = ((1, 1),)
        feed = Feed(BOOK, Scripted(tuple(answers)))
        feed.move(0, 1, 5)
        self.refused(Broken, 5, feed.correct, 1, (UP, UP))
        self.same(feed.editions(), 1)
        feed.correct(1, (UP,))
        feed.correct(0, (DOWN,))
        self.refused(Broken, 5, feed.move, 0, 1)
        feed.move(1, 1)
        self.same(feed.state(), ((3, 1), (0, 1)))


class EditionsTest(FeedCase):
    def drawn(self, chance):
        book = some_book(chance, 3)
        player = chance.choice((
            some_halves(chance, book), some_table(chance, book),
            program(book, part_names(book), some_publisher(chance, book)),
        ))
        return book, player, Feed(book, player)

    def test_elder_editions_tell_what_they_told(self):
        chance = random.Random(46)
        for _ in range(150):
            book, player, feed = self.drawn(chance)
            histories = [()]
            for _ in range(12):
                try:
                    if chance.random() < 0.5:
                        part, way = chance.randrange(len(book[0])), chance.choice((1, -1))
                        feed.move(part, way, 2)
                        histories[-1] += ((part, way),) * 2
                    else:
                        index, moves = chance.randint(0, len(histories[-1])), some_history(chance, book, 3)
                        feed.correct(index, moves)
                        histories.append(histories[-1][:index] + moves + histories[-1][index + 1:])
                except Broken:
                    pass
                self.same(feed.editions(), len(histories))
                expected = [(each, run(book, player, each), log_of(book, player, each)) for each in histories]
                self.same(self.all_told(feed), expected)
                self.same((feed.history(), feed.state(), feed.log()), expected[-1])
                one, other = chance.randint(1, len(histories)), chance.randint(1, len(histories))
                shown, beside = expected[one - 1][1][1], expected[other - 1][1][1]
                self.same(feed.differences(one, other),
                          tuple(i for i in range(len(shown)) if shown[i] != beside[i]))

    def test_the_player_that_was_handed_in_moved_between(self):
        for moves_ahead in (0, 1):
            player, twin = halves(BOOK, (1, 1)), halves(BOOK, (1, 1))
            for _ in range(moves_ahead):
                player.moved(0, 1)
                twin.moved(0, 1)
            feed, other = Feed(BOOK, player), Feed(BOOK, twin)
            for step in (("move", 0, 1, 3), ("correct", 1, (BOB,)), ("move", 1, 1, 5), ("correct", 0, ())):
                player.moved(0, 1)
                player.moved(1, -1)
                getattr(feed, step[0])(*step[1:])
                getattr(other, step[0])(*step[1:])
                self.same(self.all_told(feed), self.all_told(other))

    def test_the_player_is_copied_not_asked(self):
        player = Scripted((((0, 1),), ()))
        feed = Feed(BOOK, player)
        feed.move(0, 1, 2)
        feed.correct(0, ())
        self.assertEqual(player.at, 0)
        self.same(feed.log(), ((UP, ((0, 1),)),))

    def test_wrong_editions(self):
        feed = self.halves_feed()
        feed.move(0, 1)
        for editions in (1, 2):
            for wrong in (0, -1, editions + 1, 51, True, False, "1", "", (1,), (), 10 ** 900):
                for function in (feed.history, feed.state, feed.log):
                    with self.subTest(wrong, function=function):
                        self.refused(BadEdition, wrong, function, wrong)
            feed.correct(0, ())

    def test_differences_from_the_left(self):
        feed = self.halves_feed()
        feed.correct(0, ())
        for wrong in (None, 0, 3, True, False, "1", (1,)):
            with self.subTest(wrong):
                self.refused(BadEdition, wrong, feed.differences, wrong, 1)
                self.refused(BadEdition, wrong, feed.differences, 2, wrong)
                self.refused(BadEdition, wrong, feed.differences, wrong, 77)
                self.refused(BadEdition, 77, feed.differences, 77, wrong)

    def test_differences_of_shown_numbers_alone(self):
        feed = Feed(LINKED, Scripted((((0, 1), (1, 1)), ((0, 2),))))
        feed.move(0, 1)
        feed.correct(0, (UP, UP))
        feed.correct(0, ((2, -1), DOWN))
        self.same([feed.state(number) for number in (1, 2, 3)], [
            ((1, 0, 0), (1, 1, 0)), ((2, 0, 0), (3, 1, 0)), ((0, 0, -1), (3, 1, 0)),
        ])
        self.same(feed.differences(2, 3), ())
        self.same(feed.differences(1, 2), (0,))
        feed.correct(0, ())
        self.same(feed.history(), (DOWN, UP))
        self.same(feed.differences(2, 4), ())
        empty = Feed(LINKED, Scripted((((0, 1), (1, 1)),)))
        empty.correct(0, (UP,))
        self.same((empty.differences(1, 2), empty.differences(2, 1), empty.differences(2, 2)), ((0, 1), (0, 1), ()))

    def test_single_moves_are_quick(self):
        begun = time.perf_counter()
        feed = self.halves_feed()
        for _ in range(5000):
            feed.move(0, 1)
        self.assertLess(time.perf_counter() - begun, 20)
        self.same(feed.state(), run(BOOK, halves(BOOK, (1, 1)), (UP,) * 5000))

    def test_a_feed_of_one_part(self):
        feed = Feed(plain((1,)), halves(plain((1,)), (0,)))
        feed.move(0, -1, 2)
        self.same((feed.state(), feed.log()), (((-2,), (-2,)), ((DOWN, ((0, -1),)), (DOWN, ((0, -1),)))))
