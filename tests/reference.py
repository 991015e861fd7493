"""What DOC.md says, written a second time, tile by tile and by plain search, to hold the program against."""


def fits_right(tiles, tile, before):
    return tiles[tile][3] == tiles[before][1]


def fits_above(tiles, tile, below):
    return tiles[tile][2] == tiles[below][0]


def boards(tiles, wide, high):
    """Every board, the first ahead, laid tile by tile."""
    yield from boards_from(tiles, wide, wide * high, [])


def boards_from(tiles, wide, places, laid):
    if len(laid) == places:
        yield list(laid)
        return
    for tile in range(len(tiles)):
        if len(laid) % wide and not fits_right(tiles, tile, laid[-1]):
            continue
        if len(laid) >= wide and not fits_above(tiles, tile, laid[-wide]):
            continue
        yield from boards_from(tiles, wide, places, laid + [tile])


def is_tower(tiles, rings):
    """Whether these rings are a tower that comes again."""
    for ring in rings:
        for place in range(len(ring)):
            if not fits_right(tiles, ring[place], ring[place - 1]):
                return False
    for level in range(len(rings)):
        for tile, below in zip(rings[level], rings[level - 1]):
            if not fits_above(tiles, tile, below):
                return False
    return True


def all_rings(tiles, around):
    """Every ring of so many tiles, the first ahead."""
    return [ring for ring in boards(tiles, around, 1) if fits_right(tiles, ring[0], ring[-1])]


def fewest_tower(tiles, around):
    """The rings of the first of the fewest towers, or None: all towers of 1 ring, then of 2, and so on."""
    rings = all_rings(tiles, around)
    for height in range(1, len(rings) + 1):
        for first in rings:
            tower = tower_upon(tiles, rings, height, [first])
            if tower is not None:
                return tower
    return None


def tower_upon(tiles, rings, height, laid):
    if len(laid) == height:
        return laid if is_tower(tiles, laid) else None
    for ring in rings:
        # a ring that stands twice would leave a tower of fewer rings
        if ring in laid:
            continue
        if all(fits_above(tiles, tile, below) for tile, below in zip(ring, laid[-1])):
            tower = tower_upon(tiles, rings, height, laid + [ring])
            if tower is not None:
                return tower
    return None
