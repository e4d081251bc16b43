"""The calls on one folding rule, and what they answer."""

RULE = 0
FOLD = 1
TURN = 2
LIES = 3
SHORTEST = 4
FITS = 5
THINNEST = 6
CLOSED = 7
MARK = 8
MARKS = 9
CHANGE = 10

MOST_RODS = 10
LONGEST_ROD = 60

WRONG_ROW = -1
NO_LENGTH = -1
NO_SUCH_HINGE = -2
NO_WAY_SO_SMALL = -6


class UnknownCall(ValueError):
    pass


def are_rods(row):
    if len(row) < 1 or len(row) > MOST_RODS:
        return False
    return all([rod >= 1 and rod <= LONGEST_ROD for rod in row])


def are_hinges(row, asked):
    return len(row) == asked and all([hinge in (0, 1) for hinge in row])


def joint_places(rods, hinges):
    places = [0]
    direction = 1
    # A straight hinge ahead of the first rod: it goes to the right in any way.
    for rod, hinge in zip(rods, [0] + hinges):
        if hinge == 1:
            direction = -direction
        places.append(places[-1] + direction * rod)
    return places


def spread(places):
    return max(places) - min(places)


def rods_right_of(places, place):
    count = 0
    for start, end in zip(places, places[1:]):
        if min(start, end) <= place and place < max(start, end):
            count += 1
    return count


def thickness(places):
    # From one stretch to the next more rods can lie only where one begins,
    # so the stretches that begin at a joint are enough.
    return max([rods_right_of(places, place) for place in places])


# The first of two ways comes first here: callers take the first one they find.
def all_ways(hinge_count):
    ways = [[]]
    for hinge in range(hinge_count):
        longer = []
        for way in ways:
            longer.append(way + [0])
            longer.append(way + [1])
        ways = longer
    return ways


def changes(hinges, way):
    return len([hinge for hinge, other in zip(hinges, way) if hinge != other])


# Each rod adds its length or takes it away, whichever way the rods so far go, so
# distances are enough to go on from: no places, and no rods ahead of these.
def one_rod_further(distances, rod):
    further = {}
    for distance in distances:
        further[distance + rod] = True
        further[abs(distance - rod)] = True
    return further


def distances_from_first(rods):
    distances = {0: True}
    by_joint = []
    for rod in rods:
        distances = one_rod_further(distances, rod)
        by_joint.append(distances)
    return by_joint


def count_and_first(found):
    if len(found) == 0:
        return [0]
    return [len(found)] + found[0]


def least_and_first(ways, numbers):
    least = min(numbers)
    return [least, numbers.count(least)] + ways[numbers.index(least)]


class FoldingRule:
    def __init__(self):
        self.rods = [1]
        self.hinges = []

    def renew(self, rods):
        if not are_rods(rods):
            return [WRONG_ROW]
        self.rods = rods
        self.hinges = [0] * (len(rods) - 1)
        return [sum(rods)]

    def fold(self, hinges):
        if not are_hinges(hinges, len(self.hinges)):
            return [WRONG_ROW]
        self.hinges = hinges
        places = joint_places(self.rods, self.hinges)
        return [spread(places), thickness(places)]

    def turn(self, hinge):
        if hinge >= len(self.hinges):
            return [NO_SUCH_HINGE]
        turned = list(self.hinges)
        turned[hinge] = 1 - turned[hinge]
        return self.fold(turned)

    def lies(self):
        places = joint_places(self.rods, self.hinges)
        return [len(places)] + places

    def ways(self):
        return all_ways(len(self.hinges))

    def ways_within(self, length):
        return [way for way in self.ways() if spread(joint_places(self.rods, way)) <= length]

    def shortest(self):
        ways = self.ways()
        return least_and_first(ways, [spread(joint_places(self.rods, way)) for way in ways])

    def fits(self, length):
        return [len(self.ways_within(length))]

    def thinnest(self, length):
        ways = self.ways_within(length)
        if len(ways) == 0:
            return [NO_WAY_SO_SMALL]
        return least_and_first(ways, [thickness(joint_places(self.rods, way)) for way in ways])

    def closed(self, distance):
        return count_and_first([way for way in self.ways() if abs(joint_places(self.rods, way)[-1]) == distance])

    def mark(self, length):
        if length == 0:
            return [NO_LENGTH]
        pairs = []
        for first in range(len(self.rods)):
            for behind, distances in enumerate(distances_from_first(self.rods[first:]), start=1):
                if length in distances:
                    pairs.append([first, first + behind])
        return count_and_first(pairs)

    def marks(self):
        marked = {}
        for first in range(len(self.rods)):
            for distances in distances_from_first(self.rods[first:]):
                marked.update(distances)
        missing = 1
        while missing in marked:
            missing += 1
        return [len([length for length in marked if length >= 1]), missing]

    def change(self, length):
        ways = self.ways_within(length)
        if len(ways) == 0:
            return [NO_WAY_SO_SMALL]
        needed = [changes(self.hinges, way) for way in ways]
        fewest = min(needed)
        return [fewest] + ways[needed.index(fewest)]


def numbers_begin(calls, at):
    if calls[at] in (RULE, FOLD):
        return at + 2
    return at + 1


def numbers_end(calls, at):
    if calls[at] in (RULE, FOLD):
        return at + 2 + calls[at + 1]
    if calls[at] in (TURN, FITS, THINNEST, CLOSED, MARK, CHANGE):
        return at + 2
    return at + 1


def answer_of(rule, call, numbers):
    if call == RULE:
        return rule.renew(numbers)
    if call == FOLD:
        return rule.fold(numbers)
    if call == TURN:
        return rule.turn(numbers[0])
    if call == LIES:
        return rule.lies()
    if call == SHORTEST:
        return rule.shortest()
    if call == FITS:
        return rule.fits(numbers[0])
    if call == THINNEST:
        return rule.thinnest(numbers[0])
    if call == CLOSED:
        return rule.closed(numbers[0])
    if call == MARK:
        return rule.mark(numbers[0])
    if call == MARKS:
        return rule.marks()
    if call == CHANGE:
        return rule.change(numbers[0])
    raise UnknownCall(f"no call has the number {call}")


def answers(calls):
    rule = FoldingRule()
    told = []
    at = 0
    while at < len(calls):
        end = numbers_end(calls, at)
        answer = answer_of(rule, calls[at], calls[numbers_begin(calls, at):end])
        told.append(len(answer))
        told.extend(answer)
        at = end
    return told
