"""Closed lots by striking out, in the words of [26], for the tests."""

import itertools


def behind(book, strays, part, way, bound):
    """All strays within a bound to which the changes at a move can lead, with their numbers."""
    steps, links = book
    moved = list(strays)
    moved[part] -= way
    choices = []
    for j, many in enumerate(steps):
        numbers = range(-2 * bound - 2, 2 * bound + 3) if j in links[part] else (0,)
        choices.append([(by, moved[j] + by * many) for by in numbers if abs(moved[j] + by * many) <= bound])
    for pairs in itertools.product(*choices):
        yield tuple(pairs[j][0] for j in links[part]), tuple(after for _, after in pairs)


def leads_into(book, strays, part, way, lot):
    """Whether some changes at a move lead into the lot."""
    steps, links = book
    moved = list(strays)
    moved[part] -= way
    return any(
        all(new == old if j not in links[part] else (new - old) % steps[j] == 0
            for j, (new, old) in enumerate(zip(other, moved)))
        for other in lot
    )


def struck_out(book, line, bound, off):
    """The greatest closed lot."""
    lot = [
        strays for strays in itertools.product(range(-bound, bound + 1), repeat=len(book[0]))
        if abs(sum(weight * stray for weight, stray in zip(line, strays))) <= off
    ]
    while True:
        kept = [
            strays for strays in lot
            if all(leads_into(book, strays, part, way, lot) for part in range(len(book[0])) for way in (1, -1))
        ]
        if kept == lot:
            return tuple(lot)
        lot = kept
