"""Leads: which part's truth leads each part."""

from byhalves.alike import steps_alike
from byhalves.books import part_count
from byhalves.errors import BadLeads
from byhalves.forms import a_number, first_fault, tuple_of


def made_leads(book, thing):
    """The leads of a book that thing is."""
    steps_alike(book)
    if not tuple_of(thing, part_count(book)):
        raise BadLeads(-1)
    fault = first_fault([a_number(part) and part in row for part, row in zip(thing, book[1])])
    if fault is not None:
        raise BadLeads(fault)
    return thing


def best_leads(book):
    """The least leads of a book among those with the fewest unlike leaders."""
    steps_alike(book)
    links = book[1]
    lots = [lot for lot in _lots(part_count(book)) if _leads_all(lot, links)]
    fewest = min([len(lot) for lot in lots])
    return min([_led_by(lot, links) for lot in lots if len(lot) == fewest])


def _lots(parts):
    """All rising tuples of parts."""
    lots = [()]
    for part in range(parts):
        lots = lots + [(*lot, part) for lot in lots]
    return lots


def _leads_all(lot, links):
    """Whether each row of links has a part of the lot."""
    return all([any([part in row for part in lot]) for row in links])


def _led_by(lot, links):
    """The least leads whose leaders are all of the lot."""
    return tuple([min([part for part in row if part in lot]) for row in links])
