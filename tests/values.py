"""Values of all forms, and books, lines, histories and players by chance, for the tests."""

from byhalves.books import plain
from byhalves.halves import halves
from byhalves.tables import table_player

NO_NUMBERS = (True, False, None, "1", "", (1,), ())
PIECES = (0, 1, -1, 2, 7, True, False, None, "", "spread", "bound", "rule", (), (0, 1), (1, -1), ((0, 1), (0, 1)))


def some_value(chance, deep=4, pieces=PIECES):
    """A value that is built from the pieces, in tuples so deep at most."""
    if deep == 0 or chance.random() < 0.4:
        return chance.choice(pieces)
    return tuple(some_value(chance, deep - 1, pieces) for _ in range(chance.choice((0, 1, 2, 2, 3))))


def nested(value, deep):
    """The value within so many tuples of one."""
    for _ in range(deep):
        value = (value,)
    return value


def some_book(chance, most_parts=4, steps=(1, 2, 3, 4, 6), linked=0.3):
    """A book with links by chance; plain if linked is 0."""
    many = chance.randint(1, most_parts)
    links = tuple(tuple(j for j in range(many) if j == i or chance.random() < linked) for i in range(many))
    return tuple(chance.choice(steps) for _ in range(many)), links


def some_line(chance, book, weights=(-3, -2, -1, 0, 1, 1, 1, 2, 3)):
    line = tuple(chance.choice(weights) for _ in book[0])
    return line if any(line) else (1,) * len(line)


def some_history(chance, book, most=12):
    """A history in which a part often moves on in one way."""
    moves = []
    for _ in range(chance.randint(0, most)):
        if moves and chance.random() < 0.5:
            moves.append(moves[-1])
        else:
            moves.append((chance.randrange(len(book[0])), chance.choice((1, -1))))
    return tuple(moves)


def some_halves(chance, book):
    return halves(book, tuple(chance.randint(0, 1) for _ in book[0]))


def some_table(chance, book, rows=4, breaks=False):
    """A player by a table of answers by chance, within the links unless it breaks them."""
    parts = range(len(book[0]))

    def entry(part):
        let = parts if breaks else book[1][part]
        changed = [j for j in let if chance.random() < 0.4]
        return tuple((j, chance.choice((-2, -1, 1, 2))) for j in changed), chance.randrange(rows)

    return table_player(book, tuple(tuple(entry(part) for part in parts for _ in (1, -1)) for _ in range(rows)))


def counting_table(steps):
    """A table for one part that keeps it within its steps: its row counts them, up and down."""
    rows = []
    for count in range(steps):
        up = (((0, 1),), 0) if count == steps - 1 else ((), count + 1)
        down = (((0, -1),), steps - 1) if count == 0 else ((), count - 1)
        rows.append((up, down))
    return table_player(plain((steps,)), tuple(rows))
