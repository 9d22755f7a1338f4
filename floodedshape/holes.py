"""The holes of a shape whose corners have heights, asked for by calls told in one list of whole numbers."""

HOW_MANY_CORNERS = 10
MOST_CORNERS_OF_A_SIMPLEX = 4
MOST_SIMPLICES = 60
GREATEST_HEIGHT = 1000

NO_END = -1

NOT_A_SIMPLEX = -1
TOO_MANY_SIMPLICES = -2
NOT_HEIGHTS = -1
SECOND_IS_LOWER = -1
NOT_THERE = -3
NONE_THAT_ENDS = -6

NOTHING_FILLS_IT = 0
FILLED_BY = 1
FILLS_WHAT_IS_BORNE_BY = 2

SHAPE = 0
HEIGHT = 1
ROW_OF = 2
PAIRS = 3
BARS = 4
AT = 5
LASTING = 6
LONGEST = 7
SWAMPED = 8
PARTNER = 9


def is_simplex(corners):
    if len(corners) < 1 or len(corners) > MOST_CORNERS_OF_A_SIMPLEX:
        return False
    if len(set(corners)) < len(corners):
        return False
    return all([corner >= 0 and corner < HOW_MANY_CORNERS for corner in corners])


def are_heights(heights):
    if len(heights) != HOW_MANY_CORNERS:
        return False
    return all([height >= 0 and height <= GREATEST_HEIGHT for height in heights])


# All faces of a simplex with rising corners, it too; their corners rise as well.
def faces_of(simplex):
    faces = [()]
    for corner in simplex:
        faces = faces + [face + (corner,) for face in faces]
    # The first one has no corners: that's no simplex.
    return faces[1:]


# The simplices and their faces, each once, in order.
def with_all_faces(simplices):
    found = {}
    for simplex in simplices:
        for face in faces_of(simplex):
            found[face] = True
    return sorted(list(found), key=lambda face: (len(face), face))


# Those of the simplices that are no face of another one of them, as they stand.
def no_faces_of_others(simplices):
    faces_of_others = {}
    for simplex in simplices:
        for face in faces_of(simplex):
            # A simplex is a face of itself: that alone doesn't leave it out.
            if face != simplex:
                faces_of_others[face] = True
    return [simplex for simplex in simplices if simplex not in faces_of_others]


def comes_at(simplex, heights):
    return max([heights[corner] for corner in simplex])


# The row of simplices that are handed over in order.
def row_by_heights(simplices, heights):
    # Those that come at one height stay as they stand: in order.
    return sorted(simplices, key=lambda simplex: comes_at(simplex, heights))


def places_in(row):
    places = {}
    for place, simplex in enumerate(row):
        places[simplex] = place
    return places


# The boundary as a chain: the places in the row, rising, so that the last one by the row stands last.
def boundary_of(simplex, places):
    # What's left of a corner has no corners: that's no simplex.
    if len(simplex) == 1:
        return []
    return sorted([places[simplex[:k] + simplex[k + 1:]] for k in range(len(simplex))])


def added_by_twos(chain, other):
    return sorted(set(chain) ^ set(other))


# The boundary, with kept chains added as long as its last one is that of a kept one.
def what_is_left(boundary, kept):
    left = boundary
    while len(left) > 0 and left[-1] in kept:
        left = added_by_twos(left, kept[left[-1]])
    return left


# The pairs (place of the one that bears, place of the one that fills), in the order of the latter.
def pairs_in(row):
    places = places_in(row)
    kept = {}
    found = []
    for place, simplex in enumerate(row):
        left = what_is_left(boundary_of(simplex, places), kept)
        if len(left) > 0:
            kept[left[-1]] = left
            found.append((left[-1], place))
    return found


# The bars (dimension, beginning, end), in the order of those that bear them.
def bars_in(row, heights):
    filler = {}
    fills = {}
    for pair in pairs_in(row):
        filler[pair[0]] = pair[1]
        fills[pair[1]] = True
    found = []
    for place, simplex in enumerate(row):
        if place in fills:
            continue
        beginning = comes_at(simplex, heights)
        end = comes_at(row[filler[place]], heights) if place in filler else NO_END
        # No height is NO_END: a hole that's there for ever is never left out.
        if end != beginning:
            found.append((len(simplex) - 1, beginning, end))
    return found


def is_bar_there(bar, height):
    return bar[1] <= height and (bar[2] == NO_END or height < bar[2])


def length_of(bar):
    return bar[2] - bar[1]


# What a simplex of the row does, and the corners of the one that does the other half of it.
def partner_in(row, simplex):
    place = places_in(row)[simplex]
    for pair in pairs_in(row):
        if pair[0] == place:
            return [FILLED_BY] + list(row[pair[1]])
        if pair[1] == place:
            return [FILLS_WHAT_IS_BORNE_BY] + list(row[pair[0]])
    return [NOTHING_FILLS_IT]


def told_by_dimension(bars):
    dimensions = [bar[0] for bar in bars]
    return [dimensions.count(dimension) for dimension in range(MOST_CORNERS_OF_A_SIMPLEX)]


def told_simplices(simplices):
    told = [len(simplices)]
    for simplex in simplices:
        told.append(len(simplex))
        told.extend(list(simplex))
    return told


def told_twos(twos):
    told = [len(twos)]
    for two in twos:
        told.append(two[0])
        told.append(two[1])
    return told


# A shape and its corners' heights. Each call answers a list of numbers, or a refusal alone.
class FloodedShape:
    def __init__(self):
        self.simplices = []
        self.heights = [0] * HOW_MANY_CORNERS

    def current_row(self):
        return row_by_heights(self.simplices, self.heights)

    def current_bars(self):
        return bars_in(self.current_row(), self.heights)

    def shape(self, simplices):
        if not all([is_simplex(corners) for corners in simplices]):
            return [NOT_A_SIMPLEX]
        closed = with_all_faces([tuple(sorted(corners)) for corners in simplices])
        if len(closed) > MOST_SIMPLICES:
            return [TOO_MANY_SIMPLICES]
        self.simplices = closed
        return [len(closed)]

    def height(self, heights):
        if not are_heights(heights):
            return [NOT_HEIGHTS]
        self.heights = list(heights)
        return [len(self.current_bars())]

    def row_of(self):
        return told_simplices(self.current_row())

    def pairs(self):
        return told_twos(pairs_in(self.current_row()))

    def bars(self, dimension):
        return told_twos([(bar[1], bar[2]) for bar in self.current_bars() if bar[0] == dimension])

    def at(self, height):
        return told_by_dimension([bar for bar in self.current_bars() if is_bar_there(bar, height)])

    def lasting(self, height, other):
        if other < height:
            return [SECOND_IS_LOWER]
        there = [bar for bar in self.current_bars() if is_bar_there(bar, height)]
        return told_by_dimension([bar for bar in there if is_bar_there(bar, other)])

    def longest(self, dimension):
        ending = [bar for bar in self.current_bars() if bar[0] == dimension and bar[2] != NO_END]
        if len(ending) == 0:
            return [NONE_THAT_ENDS]
        # Of as long ones max takes the first, and they stand as in bars.
        bar = max(ending, key=length_of)
        return [length_of(bar), bar[1], bar[2]]

    def swamped(self, height):
        there = [simplex for simplex in self.simplices if comes_at(simplex, self.heights) <= height]
        return told_simplices(no_faces_of_others(there))

    def partner(self, corners):
        if not is_simplex(corners):
            return [NOT_A_SIMPLEX]
        simplex = tuple(sorted(corners))
        if simplex not in self.simplices:
            return [NOT_THERE]
        return partner_in(self.current_row(), simplex)


def answer_of(flooded, call, numbers, lists):
    if call == SHAPE:
        return flooded.shape(lists)
    if call == HEIGHT:
        return flooded.height(numbers)
    if call == ROW_OF:
        return flooded.row_of()
    if call == PAIRS:
        return flooded.pairs()
    if call == BARS:
        return flooded.bars(numbers[0])
    if call == AT:
        return flooded.at(numbers[0])
    if call == LASTING:
        return flooded.lasting(numbers[0], numbers[1])
    if call == LONGEST:
        return flooded.longest(numbers[0])
    if call == SWAMPED:
        return flooded.swamped(numbers[0])
    if call == PARTNER:
        return flooded.partner(numbers)
    raise ValueError(f"there is no call {call}")


# The numbers behind the count that stands at start.
def counted(calls, start):
    return calls[start + 1:start + 1 + calls[start]]


# The answers to the calls, in order, each with how many numbers it has ahead of it.
def answers(calls):
    flooded = FloodedShape()
    answered = []
    start = 0
    while start < len(calls):
        call = calls[start]
        numbers = counted(calls, start + 1)
        start = start + 2 + len(numbers)
        how_many_lists = calls[start]
        start = start + 1
        lists = []
        while len(lists) < how_many_lists:
            lists.append(counted(calls, start))
            start = start + 1 + len(lists[-1])
        answer = answer_of(flooded, call, numbers, lists)
        answered.append(len(answer))
        answered.extend(answer)
    return answered
