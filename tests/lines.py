"""Short words for lines of calls, and for taking apart what is answered."""

from ringagain.tiles import answers


def tiles(*colours):
    return [0, len(colours), *colours]


def board(wide, high):
    return [1, wide, high]


def many(wide, high):
    return [2, wide, high]


def ring(around):
    return [3, around]


def least():
    return [4]


def forever(around):
    return [5, around]


def used(around):
    return [6, around]


def grow(tile):
    return [7, tile]


def ask(*calls):
    """Ask these calls as one line and give back a list of answers, one for each."""
    line = [number for call in calls for number in call]
    given = answers(line)
    found = []
    at = 0
    while at < len(given):
        found.append(given[at + 1:at + 1 + given[at]])
        if len(found[-1]) != given[at]:
            raise AssertionError(f"a count goes beyond the end: {given}")
        at += 1 + given[at]
    if len(found) != len(calls):
        raise AssertionError(f"{len(calls)} calls, {len(found)} answers: {given}")
    return found


def flat(rows):
    return [number for row in rows for number in row]


def ladder(*steps):
    """Tiles that all fit to the right of all, with these colours down and up."""
    return tiles(*flat((up, 0, down, 0) for down, up in steps))
