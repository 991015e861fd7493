"""What DOC.md says, written a second time, tile by tile and by plain search, to hold the program against."""


def fits_right(tiles, tile, before):
    return tiles[tile][3] == tiles[before][1]


def fits_above(tiles, tile, below):
    return tiles[tile][2] == tiles[below][0]


def boards(tiles, wide, high):
    """Every board, the first ahead, laid tile by tile."""
    yield from boards_from(tiles, wide, wide * high, [])


def boards_from(tiles, wide, places, laid):
    if len(laid) == places:
        yield list(laid)
        return
    for tile in range(len(tiles)):
        if len(laid) % wide and not fits_right(tiles, tile, laid[-1]):
            continue
        if len(laid) >= wide and not fits_above(tiles, tile, laid[-wide]):
            continue
        yield from boards_from(tiles, wide, places, laid + [tile])


def is_tower(tiles, rings):
    """Whether these rings are a tower that comes again."""
    for ring in rings:
        for place in range(len(ring)):
            if not fits_right(tiles, ring[place], ring[place - 1]):
                return False
    for level in range(len(rings)):
        for tile, below in zip(rings[level], rings[level - 1]):
            if not fits_above(tiles, tile, below):
                return False
    return True


def all_rings(tiles, around):
    """Every ring of so many tiles, the first ahead."""
    return [ring for ring in boards(tiles, around, 1) if fits_right(tiles, ring[0], ring[-1])]


def lies_above(tiles, ring, lower):
    return all(fits_above(tiles, tile, below) for tile, below in zip(ring, lower))


def fewest_tower(tiles, around):
    """The rings of the first of the fewest towers, or None: all towers of 1 ring, then of 2, and so on."""
    rings = all_rings(tiles, around)
    for height in range(1, len(rings) + 1):
        for first in rings:
            tower = tower_upon(tiles, rings, height, [first])
            if tower is not None:
                return tower
    return None


def tower_upon(tiles, rings, height, laid):
    if len(laid) == height:
        return laid if is_tower(tiles, laid) else None
    for ring in rings:
        # a ring that stands twice would leave a tower of fewer rings
        if ring in laid:
            continue
        if lies_above(tiles, ring, laid[-1]):
            tower = tower_upon(tiles, rings, height, laid + [ring])
            if tower is not None:
                return tower
    return None


def least(tiles):
    """The tiles round and the rings high of the least tower, or None: all three widths, sorted by their product."""
    found = []
    for around in (1, 2, 3):
        tower = fewest_tower(tiles, around)
        if tower is not None:
            found.append((around * len(tower), around, len(tower)))
    return list(min(found)[1:]) if found else None


def endless_rings(tiles, around):
    """Every ring that goes on for ever.

    As many steps up as there are rings must pass some ring twice, so that they can be taken again and again;
    likewise down.
    """
    rings = all_rings(tiles, around)
    numbers = range(len(rings))
    above = [[other for other in numbers if lies_above(tiles, rings[other], rings[one])] for one in numbers]
    below = [[other for other in numbers if lies_above(tiles, rings[one], rings[other])] for one in numbers]
    return [rings[one] for one in numbers if steps_last(above, one) and steps_last(below, one)]


def steps_last(further, start):
    reached = {start}
    for step in range(len(further)):
        reached = {other for one in reached for other in further[one]}
    return bool(reached)


def used(tiles, around):
    return sorted({tile for ring in endless_rings(tiles, around) for tile in ring})


def grow(tiles, tile):
    """The greatest side of a square from this tile on, looked for from the greatest down."""
    for side in (4, 3, 2, 1):
        if any(True for found in boards_from(tiles, side, side * side, [tile])):
            return side
    return 0


def answers(calls):
    """What is due for a list of calls, each told as its number and a list of its numbers; one answer for each."""
    laid = []
    due = []
    for kind, numbers in calls:
        if kind == 0:
            if len(numbers) % 4 or any(colour > 5 for colour in numbers) or len(numbers) // 4 > 5:
                due.append([-1])
            else:
                laid = [numbers[at:at + 4] for at in range(0, len(numbers), 4)]
                due.append([len(laid)])
        elif kind in (1, 2):
            due.append(board_answer(laid, kind, *numbers))
        elif kind == 4:
            due.append(least(laid) or [-3])
        elif kind == 7:
            due.append([grow(laid, numbers[0])] if numbers[0] < len(laid) else [-2])
        else:
            due.append(ring_answer(laid, kind, *numbers))
    return due


def board_answer(tiles, kind, wide, high):
    if wide not in (1, 2, 3, 4) or high not in (1, 2, 3, 4):
        return [-1]
    if kind == 2:
        return [sum(1 for found in boards(tiles, wide, high))]
    return next(boards(tiles, wide, high), [-3])


def ring_answer(tiles, kind, around):
    if around not in (1, 2, 3):
        return [-1]
    if kind == 5:
        return [len(all_rings(tiles, around)), len(endless_rings(tiles, around))]
    if kind == 6:
        standing = used(tiles, around)
        return [len(standing)] + standing
    tower = fewest_tower(tiles, around)
    if tower is None:
        return [-3]
    return [len(tower)] + [tile for ring in tower for tile in ring]
