from byhalves.books import plain, total
from byhalves.errors import BadBook, BadTies
from byhalves.halves import halves
from byhalves.packings import reach
from byhalves.runs import run, stray, strays, within
from refusals import Refusals

PAIR = plain((2, 2))


def shown_on_the_way(steps, tie, way, many):
    """What one part shows as its truth goes from 0 to many steps away, along one player."""
    player = halves(plain((steps,)), (tie,))
    shown = 0
    numbers = [0]
    for _ in range(many):
        for part, by in player.moved(0, way):
            assert part == 0 and by != 0
            shown += by
        numbers.append(shown)
    return numbers


def nearest(truth, steps, tie):
    """The nearest number, looked for by its distance."""
    middle = truth // steps
    near = [(abs(units * steps - truth), units) for units in range(middle - 2, middle + 3)]
    least = min(near)[0]
    nearests = [units for distance, units in near if distance == least]
    return max(nearests) if tie == 1 else min(nearests)


class HalvesTest(Refusals):
    def test_the_examples_of_one_part(self):
        self.assertEqual(shown_on_the_way(4, 0, 1, 4), [0, 0, 0, 1, 1])
        self.assertEqual(shown_on_the_way(4, 1, 1, 2), [0, 0, 1])
        self.assertEqual(shown_on_the_way(4, 1, -1, 2), [0, 0, 0])
        book = plain((4,))
        down, up = halves(book, (0,)), halves(book, (1,))
        told = [strays(book, run(book, down, ((0, 1),) * many)) for many in range(5)]
        self.assertEqual(told, [(0,), (-1,), (-2,), (1,), (0,)])
        self.assertEqual(strays(book, run(book, up, ((0, 1),) * 2)), (2,))
        self.assertEqual(strays(book, run(book, up, ((0, -1),) * 2)), (2,))

    def test_the_example_of_two_parts(self):
        player = halves(book=PAIR, ties=(1, 1))
        history = ((0, 1), (1, 1))
        state = run(PAIR, player, history)
        self.same(state, ((1, 1), (1, 1)))
        self.same(strays(PAIR, state), (1, 1))
        self.same(stray(PAIR, (1, 1), state), 2)
        self.same(within(PAIR, player, history, 0), 0)
        self.assertIsNone(within(PAIR, player, history, 1))

    def test_the_nearest_number_of_any_steps(self):
        for steps in (1, 2, 3, 4, 5, 10, 59, 60):
            for tie in (0, 1):
                for way in (1, -1):
                    with self.subTest(steps=steps, tie=tie, way=way):
                        expected = [nearest(way * far, steps, tie) for far in range(3 * steps + 2)]
                        self.assertEqual(shown_on_the_way(steps, tie, way, 3 * steps + 1), expected)

    def test_a_move_tells_its_own_part_alone(self):
        book = ((2, 3, 1), ((0, 1, 2), (0, 1, 2), (0, 1, 2)))
        player = halves(book, (0, 1, 0))
        for move, changes in (
            ((0, 1), ()), ((1, 1), ()), ((1, 1), ((1, 1),)), ((0, 1), ((0, 1),)), ((2, -1), ((2, -1),)),
            ((0, -1), ((0, -1),)), ((1, 1), ()), ((1, -1), ()), ((1, -1), ((1, -1),)), ((2, 1), ((2, 1),)),
        ):
            self.same(player.moved(*move), changes)

    def test_the_tie_is_that_of_the_part(self):
        self.same(run(PAIR, halves(PAIR, (0, 1)), ((0, 1), (1, 1))), ((1, 1), (0, 1)))
        self.same(run(PAIR, halves(PAIR, (1, 0)), ((0, -1), (1, -1))), ((-1, -1), (0, -1)))

    def test_a_copy_goes_on_alike_and_apart(self):
        player = halves(PAIR, (0, 1))
        player.moved(0, 1)
        copied = player.copy()
        self.same(copied.moved(0, 1), ((0, 1),))
        self.same(copied.moved(1, 1), ((1, 1),))
        self.same(player.moved(1, 1), ((1, 1),))
        self.same(player.moved(0, 1), ((0, 1),))
        self.same(player.moved(way=-1, part=0), ((0, -1),))
        self.same(copied.moved(0, 1), ())

    def test_a_line_keeps_within_its_reach(self):
        book = plain((3, 4))
        line = total(book)
        player = halves(book, (1, 0))
        told = []
        for far in range(-6, 7):
            for other in range(-6, 7):
                history = ((0, 1 if far > 0 else -1),) * abs(far) + ((1, 1 if other > 0 else -1),) * abs(other)
                told.append(stray(book, line, run(book, player, history)))
        self.assertEqual(max(told) - min(told), reach(book, line))

    def test_what_is_no_tuple_of_as_many(self):
        for ties in (None, 0, "01", True, (), (0,), (0, 1, 1), (2,)):
            with self.subTest(ties):
                self.refused(BadTies, -1, halves, PAIR, ties)

    def test_the_first_wrong_tie_decides(self):
        for what, ties in (
            (0, (2, 0)), (0, (-1, 5)), (0, (True, 0)), (1, (0, True)), (1, (1, False)), (1, (1, "0")), (1, (0, None)),
            (0, ((0,), 1)), (0, (None, None)), (1, (1, 2)),
        ):
            with self.subTest(ties):
                self.refused(BadTies, what, halves, PAIR, ties)

    def test_the_book_is_asked_ahead(self):
        self.refused(BadBook, -1, halves, None, None)
        self.refused(BadBook, (0, 0), halves, ((0,), ((0,),)), (5,))
