"""The calls on one new box, answered in their order."""

from cambox.box import Box
from cambox.reading import Reader

BEGINS = 0
CAM = 1
WISH = 2
SUM = 3
NEAREST = 4
EVENEST = 5


class UnknownCall(Exception):
    """A call has a number that is none of those told."""


def answer(box, reader):
    """Read one call, and give the list of the numbers it answers."""
    call = reader.number()
    if call == BEGINS:
        return box.begins(reader.number())
    if call == CAM:
        return box.cam(reader.row())
    if call == WISH:
        return box.wish(reader.row())
    if call == SUM:
        return box.sum_of(reader.row())
    if call == NEAREST:
        return box.nearest()
    if call == EVENEST:
        return box.evenest()
    # Where the next call begins can't be told behind one that isn't known.
    raise UnknownCall(f"no call has the number {call}")


def answers(calls):
    """Give for each call how many numbers it answers, then these numbers."""
    box = Box()
    reader = Reader(calls)
    given = []
    while reader.has_more():
        answered = answer(box, reader)
        given.append(len(answered))
        given.extend(answered)
    return given
