"""What holds over the whole program, [0.3], across its files."""

import random

from byhalves.books import total
from byhalves.breaker import breaker, off_history
from byhalves.closing import least_off
from byhalves.feeds import Feed
from byhalves.halves import halves
from byhalves.judging import judge, lines_off, spread
from byhalves.keepers import keeper
from byhalves.logs import audit, fits, log_of
from byhalves.packings import off, reach
from byhalves.papers import paper_right
from byhalves.printer import print_book, print_history, print_line, print_paper, print_publisher
from byhalves.programs import program, program_at
from byhalves.readbooks import read_book, read_history, read_line, read_paper
from byhalves.reader import read_publisher
from byhalves.runs import run, stray, within
from programming import part_names, some_publisher
from refusals import Refusals
from values import some_book, some_halves, some_history, some_line, some_table


# A publisher that shows each part by itself, its halves up and down by turns.
TURNS = (
    "rows up0 1; "
    "if up0[moved] = 1 { show moved := (2 * truth[moved] + steps[moved]) / (2 * steps[moved]) } "
    "else { show moved := (2 * truth[moved] + steps[moved] - 1) / (2 * steps[moved]) }; "
    "up0[moved] := 1 - up0[moved]"
)


class WholeTest(Refusals):
    def test_each_program_is_beaten(self):
        chance = random.Random(3)
        words = {"spread": 0, "bound": 0, "rule": 0}
        for number in range(250):
            book = some_book(chance, 3, steps=(1, 2, 3, 4))
            names = part_names(book)
            line = some_line(chance, book)
            publisher = read_publisher(book, names, TURNS) if number < 80 else some_publisher(chance, book)
            player = program(book, names, publisher)
            bound = chance.randint(0, 6)
            paper = breaker(book, line, player, bound)
            with self.subTest(book, line=line, publisher=publisher, bound=bound):
                self.assertIs(paper_right(book, line, player, bound, paper), True)
                self.same(read_paper(book, names, print_paper(book, names, paper)), paper)
                if paper[0] == "spread":
                    most, least = spread(book, line, player, paper[1:])
                    self.assertGreaterEqual(most - least, reach(book, line))
                    history = off_history(book, line, player, bound)
                    self.assertGreaterEqual(abs(stray(book, line, run(book, player, history))), off(book, line))
                else:
                    wrong = judge(book, player, bound if paper[0] == "bound" else 10000, paper[1])
                    self.assertEqual(wrong[0], len(paper[1]) - 1)
                    self.assertEqual(wrong[1] == "stray", paper[0] == "bound")
            words[paper[0]] += 1
        self.assertGreater(min(words.values()), 20)

    def test_halves_keeps_every_line_of_a_plain_book_within_its_reach(self):
        chance = random.Random(4)
        for _ in range(100):
            book = some_book(chance, 4, steps=(1, 2, 3, 4, 10), linked=0)
            lines = (total(book), *(some_line(chance, book) for _ in range(3)))
            player = some_halves(chance, book)
            history = tuple(move for _ in range(12) for move in some_history(chance, book))
            for line, (most, least) in zip(lines, lines_off(book, lines, player, history)):
                self.assertLessEqual(most - least, reach(book, line))

    def test_keepers_keep_what_can_be_kept(self):
        chance = random.Random(5)
        kept = 0
        for _ in range(60):
            book = some_book(chance, 2, steps=(1, 2, 3, 4))
            line, bound = some_line(chance, book), chance.randint(1, 5)
            least = least_off(book, line, bound)
            if least is not None:
                player = keeper(book, line, bound, least)
                history = tuple(move for _ in range(10) for move in some_history(chance, book))
                self.assertIsNone(judge(book, player, bound, history))
                most, lowest = spread(book, line, player, (history,))
                self.assertLessEqual(max(most, -lowest), least)
                kept += 1
        self.assertGreater(kept, 20)

    def test_a_run_is_told_by_state_and_move_alone(self):
        chance = random.Random(6)
        for _ in range(100):
            book = some_book(chance, 3)
            names, publisher = part_names(book), some_publisher(chance, book)
            player = program(book, names, publisher)
            seen = {}
            for move in some_history(chance, book, 40):
                state = player.state()
                told = player.moved(*move), player.state()
                self.same(seen.setdefault((state, move), told), told)
                other = program_at(book, names, publisher, state)
                self.same((other.copy().moved(*move), other.state()), (told[0], state))

    def test_texts_are_read_as_they_were_told(self):
        chance = random.Random(7)
        for _ in range(150):
            book = some_book(chance, 6, linked=0.5)
            names, line = part_names(book), some_line(chance, book)
            history = some_history(chance, book, 200)
            publisher = some_publisher(chance, book)
            self.same(read_book(print_book(book, names)), (names, book))
            self.same(read_line(book, names, print_line(book, names, line)), line)
            self.same(read_history(book, names, print_history(book, names, history)), history)
            text = print_publisher(book, names, publisher)
            if len(text) <= 20000:
                self.same(read_publisher(book, names, text), publisher)

    def test_players_of_all_kinds_go_through_logs_and_feeds(self):
        chance = random.Random(8)
        for _ in range(60):
            book = some_book(chance, 3, steps=(3,))
            names = part_names(book)
            for player in (
                some_halves(chance, book), some_table(chance, book),
                program(book, names, read_publisher(book, names, TURNS)),
            ):
                history = some_history(chance, book, 30)
                log = log_of(book, player, history)
                feed = Feed(book, player)
                feed.correct(0, history)
                self.same((feed.log(), feed.state()), (log, run(book, player, history)))
                self.assertIsNone(fits(book, player, log))
                bound = chance.randint(0, 5)
                wrongs = audit(book, (), bound, log)[3]
                first = within(book, player, history, bound)
                self.same(wrongs[0][0] if wrongs else None, first)

    def test_a_program_does_what_another_player_does(self):
        chance = random.Random(9)
        text = "show moved := (2 * truth[moved] + steps[moved]) / (2 * steps[moved])"
        for _ in range(50):
            book = some_book(chance, 4)
            names, history = part_names(book), some_history(chance, book, 60)
            player = program(book, names, read_publisher(book, names, text))
            self.same(log_of(book, player, history), log_of(book, halves(book, (1,) * len(names)), history))
