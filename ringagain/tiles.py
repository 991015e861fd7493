"""The calls of one line, about some tiles: the boards and the towers that can be laid with them.

A tile is kept as its four colours up, right, down, left; a row or a ring as the list of its tiles' numbers.
Rows and rings are always listed with the first ahead, so the first one found is the first there is.
"""

TILES = 0
BOARD = 1
MANY = 2
RING = 3
LEAST = 4
FOREVER = 5
USED = 6
GROW = 7

# how many whole numbers each call has, but for tiles, which has a row with its own count
NUMBERS_OF_CALL = {1: 2, 2: 2, 3: 1, 4: 0, 5: 1, 6: 1, 7: 1}

UP = 0
RIGHT = 1
DOWN = 2
LEFT = 3
SIDES = 4

HIGHEST_COLOUR = 5
MOST_TILES = 5
LONGEST_SIDE = 4
MOST_ROUND = 3

WRONG = -1
NO_TILE = -2
NONE_THERE = -3


def answers(calls):
    """Answer a line of calls: for each call how many numbers are answered, then these."""
    tiles = []
    answered = []
    at = 0
    while at < len(calls):
        kind = calls[at]
        end = end_of_call(calls, at)
        numbers = calls[start_of_numbers(calls, at):end]
        if kind == TILES and are_tiles(numbers):
            tiles = tiles_of(numbers)
        answer = answer_of_call(tiles, kind, numbers)
        answered.append(len(answer))
        answered.extend(answer)
        at = end
    return answered


def start_of_numbers(calls, at):
    """Where the numbers of the call at this place begin."""
    if calls[at] == TILES:
        return at + 2
    return at + 1


def end_of_call(calls, at):
    """The place just behind the call at this place."""
    start = start_of_numbers(calls, at)
    if calls[at] == TILES:
        return start + calls[at + 1]
    return start + NUMBERS_OF_CALL[calls[at]]


def answer_of_call(tiles, kind, numbers):
    """The numbers answered of one call, or its refusal alone."""
    if kind == TILES:
        return answer_of_tiles(numbers)
    if kind == BOARD:
        return answer_of_board(tiles, numbers[0], numbers[1])
    if kind == MANY:
        return answer_of_many(tiles, numbers[0], numbers[1])
    if kind == RING:
        return answer_of_ring(tiles, numbers[0])
    if kind == LEAST:
        return answer_of_least(tiles)
    if kind == FOREVER:
        return answer_of_forever(tiles, numbers[0])
    if kind == USED:
        return answer_of_used(tiles, numbers[0])
    return answer_of_grow(tiles, numbers[0])


def answer_of_tiles(colours):
    """How many tiles these colours make."""
    if not are_tiles(colours):
        return [WRONG]
    return [len(colours) // SIDES]


def answer_of_board(tiles, wide, high):
    """The tiles of the first board."""
    if not is_board_size(wide, high):
        return [WRONG]
    places = first_board(tiles, wide, high)
    if not places:
        return [NONE_THERE]
    return places


def answer_of_many(tiles, wide, high):
    """How many boards there are."""
    if not is_board_size(wide, high):
        return [WRONG]
    rows = rows_of(tiles, wide)
    ways = ways_above(colours_of(tiles, rows, UP), colours_of(tiles, rows, DOWN), high)
    return [sum(ways[high].values())]


def answer_of_ring(tiles, around):
    """The fewest q, then the tiles of the first tower of q rings that comes again."""
    if not is_ring_size(around):
        return [WRONG]
    rings = rings_of(tiles, around)
    tower = fewest_tower(tiles, rings)
    if not tower:
        return [NONE_THERE]
    answer = [len(tower)]
    for ring in tower:
        answer.extend(rings[ring])
    return answer


def answer_of_least(tiles):
    """How many tiles round and how many rings high the tower of the fewest tiles is that comes again."""
    least = []
    for around in range(1, MOST_ROUND + 1):
        high = len(fewest_tower(tiles, rings_of(tiles, around)))
        if high > 0 and (not least or around * high < least[0] * least[1]):
            least = [around, high]
    if not least:
        return [NONE_THERE]
    return least


def answer_of_forever(tiles, around):
    """How many rings there are, then how many of them go on for ever."""
    if not is_ring_size(around):
        return [WRONG]
    rings = rings_of(tiles, around)
    return [len(rings), len(endless_rings(tiles, rings))]


def answer_of_used(tiles, around):
    """How many tiles stand in rings that go on for ever, then these."""
    if not is_ring_size(around):
        return [WRONG]
    used = {}
    for ring in endless_rings(tiles, rings_of(tiles, around)):
        for tile in ring:
            used[tile] = True
    return [len(used)] + sorted(used)


def answer_of_grow(tiles, tile):
    """The longest side of a square board that has this tile as the first of its lowest row."""
    if tile >= len(tiles):
        return [NO_TILE]
    side = 0
    # a square holds a smaller one at the same corner, so behind the first that is missing there are no greater ones
    while side < LONGEST_SIDE and begins_square(tiles, tile, side + 1):
        side += 1
    return [side]


def are_tiles(colours):
    """Whether these numbers are the colours of as many tiles as there may be."""
    if len(colours) % SIDES != 0 or len(colours) > MOST_TILES * SIDES:
        return False
    return all([colour <= HIGHEST_COLOUR for colour in colours])


def tiles_of(colours):
    """The tiles that these colours make."""
    return [tuple(colours[start:start + SIDES]) for start in range(0, len(colours), SIDES)]


def is_board_size(wide, high):
    """Whether boards of this size are answered at all."""
    return 1 <= wide <= LONGEST_SIDE and 1 <= high <= LONGEST_SIDE


def is_ring_size(around):
    """Whether rings of so many tiles are answered at all."""
    return 1 <= around <= MOST_ROUND


def fits_right(tiles, tile, before):
    """Whether the tile fits to the right of the one before."""
    return tiles[tile][LEFT] == tiles[before][RIGHT]


def rows_of(tiles, wide):
    """All rows of so many tiles, the first ahead."""
    rows = [[]]
    for place in range(wide):
        rows = longer_rows(tiles, rows)
    return rows


def longer_rows(tiles, rows):
    """All rows that are one of these with one tile more; their order stays that of first and later."""
    longer = []
    for row in rows:
        for tile in range(len(tiles)):
            if not row or fits_right(tiles, tile, row[-1]):
                longer.append(row + [tile])
    return longer


def rings_of(tiles, around):
    """All rings of so many tiles, the first ahead."""
    return [row for row in rows_of(tiles, around) if fits_right(tiles, row[0], row[-1])]


def colours_of(tiles, rows, side):
    """For each row the colours that its tiles have on this side."""
    return [tuple([tiles[tile][side] for tile in row]) for row in rows]


def ways_above(ups, downs, high):
    """For each k from 0 to high: from the colours that a row shows up to how many ways k rows lie above it.

    Only colours with a way are among the keys. Rows are told apart by their colours alone, for there may be
    hundreds of rows, and far too many boards to walk through.
    """
    nothing_above = {}
    for colours in ups:
        nothing_above[colours] = 1
    ways = [nothing_above]
    for level in range(high):
        ways.append(one_row_more(ups, downs, ways[level]))
    return ways


def one_row_more(ups, downs, ways):
    """The ways to lay one row and then, above it, what these ways tell."""
    more = {}
    for row in range(len(ups)):
        if ups[row] in ways:
            more[downs[row]] = more.get(downs[row], 0) + ways[ups[row]]
    return more


def first_board(tiles, wide, high):
    """The tiles of the first board, row by row, or none if there's no board."""
    rows = rows_of(tiles, wide)
    ups = colours_of(tiles, rows, UP)
    downs = colours_of(tiles, rows, DOWN)
    ways = ways_above(ups, downs, high)
    board = []
    fitting = list(range(len(rows)))
    for level in range(high):
        # a row that can't be built on up to the top is no part of any board, however low its tiles
        lasting = [row for row in fitting if ups[row] in ways[high - 1 - level]]
        if not lasting:
            return []
        board.extend(rows[lasting[0]])
        fitting = [row for row in range(len(rows)) if downs[row] == ups[lasting[0]]]
    return board


def begins_square(tiles, tile, side):
    """Whether there's a board so wide and so high with this tile as the first of its lowest row."""
    rows = rows_of(tiles, side)
    ups = colours_of(tiles, rows, UP)
    ways = ways_above(ups, colours_of(tiles, rows, DOWN), side)
    return any([rows[row][0] == tile and ups[row] in ways[side - 1] for row in range(len(rows))])


def fewest_tower(tiles, rings):
    """The places, among the rings, of the first of the fewest towers that come again; none if there's none."""
    ups = colours_of(tiles, rings, UP)
    downs = colours_of(tiles, rings, DOWN)
    above = matches(ups, downs)
    below = matches(downs, ups)
    fewest = []
    for first in range(len(rings)):
        tower = tower_from(above, below, first)
        if tower and (not fewest or len(tower) < len(fewest)):
            fewest = tower
        if len(fewest) == 1:
            # no tower is lower than one ring, so the rest need not be looked at
            return fewest
    return fewest


def matches(wanted, shown):
    """For each of the wanted colours the places, rising, at which the same colours are shown."""
    places = {}
    for place in range(len(shown)):
        if shown[place] not in places:
            places[shown[place]] = []
        places[shown[place]].append(place)
    return [places.get(colours, []) for colours in wanted]


def tower_from(above, below, first):
    """The first of the fewest towers that come again and begin with this ring; none if there's none."""
    steps = steps_up_to(below, first)
    ways_back = [steps[ring] for ring in above[first] if ring in steps]
    if not ways_back:
        return []
    tower = [first]
    left = min(ways_back)
    while left > 0:
        # each ring must be as near to the first as it can be, or the tower would have more rings
        nearest = [ring for ring in above[tower[-1]] if steps.get(ring) == left]
        tower.append(nearest[0])
        left -= 1
    return tower


def steps_up_to(below, goal):
    """From each ring that the goal can be reached from, upwards, to how many steps that takes at the least."""
    steps = {goal: 0}
    reached = [goal]
    while reached:
        further = []
        for ring in reached:
            for lower in below[ring]:
                if lower not in steps:
                    steps[lower] = steps[ring] + 1
                    further.append(lower)
        reached = further
    return steps


def endless_rings(tiles, rings):
    """Those of the rings that go on for ever.

    A ring with nothing above or nothing below it is taken away, and so on with those left. As each that stays at
    last has others that stay above and below it, it can be built on for ever both ways.
    """
    left = rings
    taken = True
    while taken:
        ups = colours_of(tiles, left, UP)
        downs = colours_of(tiles, left, DOWN)
        above = matches(ups, downs)
        below = matches(downs, ups)
        staying = [left[ring] for ring in range(len(left)) if above[ring] and below[ring]]
        taken = len(staying) < len(left)
        left = staying
    return left
