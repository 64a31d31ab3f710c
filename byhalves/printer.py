"""Books, publishers, lines, histories and papers are told as texts."""

from byhalves.books import made_line, part_count
from byhalves.errors import BadPaper
from byhalves.moves import made_history
from byhalves.papers import paper_formed
from byhalves.printphrases import condition_text, kept_in_row, number_text, part_text
from byhalves.publishers import made_names, made_publisher


def print_book(book, names):
    """The text of a book and its names."""
    made_names(book, names)
    steps, links = book
    text = "parts " + ", ".join([f"{name} {many}" for name, many in zip(names, steps)])
    rows = [_row_text(names, part, linked) for part, linked in enumerate(links) if linked != (part,)]
    return text + "; links " + "; ".join(rows) if rows else text


def print_publisher(book, names, publisher):
    """The text of a publisher."""
    cells, rows, body = made_publisher(book, names, publisher)
    pieces = [_kept_text("cells", cells), _kept_text("rows", rows), _body_text(names, body)]
    return " ".join([piece for piece in pieces if piece])


def print_line(book, names, line):
    """The text of a line."""
    made_names(book, names)
    made_line(book, line)
    return "line " + ", ".join([f"{weight} {name}" for weight, name in zip(line, names) if weight != 0])


def print_history(book, names, history):
    """The text of a history."""
    made_names(book, names)
    return _history_text(names, made_history(book, history))


def print_paper(book, names, paper):
    """The text of a paper."""
    made_names(book, names)
    if not paper_formed(part_count(book), paper):
        raise BadPaper(-1)
    pieces = [paper[0], _history_text(names, paper[1])]
    for history in paper[2:]:
        pieces.extend(["/", _history_text(names, history)])
    return " ".join([piece for piece in pieces if piece])


def _row_text(names, part, linked):
    """A row of links: a part, and the others that are linked to it."""
    others = ", ".join([names[other] for other in linked if other != part])
    return f"{names[part]}: {others}"


def _history_text(names, history):
    """The turns of a history."""
    runs = []
    for move in history:
        if runs and runs[-1][0] == move:
            runs[-1][1] += 1
        else:
            runs.append([move, 1])
    return ", ".join([_turn_text(names, move, many) for move, many in runs])


def _turn_text(names, move, many):
    """So many moves side by side."""
    way = "up" if move[1] == 1 else "down"
    return f"{names[move[0]]} {way}" if many == 1 else f"{names[move[0]]} {way} {many}"


def _kept_text(word, kept):
    """Cells or rows behind their word; nothing if there are none."""
    starts = ", ".join([f"{name} {start}" for name, start in kept])
    return f"{word} {starts};" if kept else ""


def _body_text(names, body):
    """The statements of a body."""
    return "; ".join([_statement_text(names, statement) for statement in body])


def _block_text(names, body):
    """A body in its braces."""
    return "{ " + _body_text(names, body) + " }" if body else "{}"


def _statement_text(names, statement):
    """One statement."""
    word = statement[0]
    if word == "each":
        return f"{word} {_block_text(names, statement[1])}"
    if word == "if":
        text = f"{word} {condition_text(names, statement[1])} {_block_text(names, statement[2])}"
        return text + " else " + _block_text(names, statement[3]) if statement[3] else text
    return f"{_target_text(names, statement)} := {number_text(names, statement[-1])}"


def _target_text(names, statement):
    """What becomes another number."""
    if statement[0] == "set":
        return statement[1]
    if statement[0] == "put":
        return kept_in_row(names, statement[1], statement[2])
    return "show " + part_text(names, statement[1])
