"""The calls on one folding rule, and what they answer."""

RULE = 0
FOLD = 1
TURN = 2
LIES = 3
SHORTEST = 4
FITS = 5

MOST_RODS = 10
LONGEST_ROD = 60

WRONG_ROW = -1
NO_SUCH_HINGE = -2


class UnknownCall(ValueError):
    pass


def are_rods(row):
    if len(row) < 1 or len(row) > MOST_RODS:
        return False
    return all([rod >= 1 and rod <= LONGEST_ROD for rod in row])


def are_hinges(row, asked):
    return len(row) == asked and all([hinge in (0, 1) for hinge in row])


def joint_places(rods, hinges):
    places = [0]
    direction = 1
    # A straight hinge ahead of the first rod: it goes to the right in any way.
    for rod, hinge in zip(rods, [0] + hinges):
        if hinge == 1:
            direction = -direction
        places.append(places[-1] + direction * rod)
    return places


def spread(places):
    return max(places) - min(places)


def rods_right_of(places, place):
    count = 0
    for start, end in zip(places, places[1:]):
        if min(start, end) <= place and place < max(start, end):
            count += 1
    return count


def thickness(places):
    # From one stretch to the next more rods can lie only where one begins,
    # so the stretches that begin at a joint are enough.
    return max([rods_right_of(places, place) for place in places])


# The first of two ways comes first here: callers take the first one they find.
def all_ways(hinge_count):
    ways = [[]]
    for hinge in range(hinge_count):
        longer = []
        for way in ways:
            longer.append(way + [0])
            longer.append(way + [1])
        ways = longer
    return ways


class FoldingRule:
    def __init__(self):
        self.rods = [1]
        self.hinges = []

    def renew(self, rods):
        if not are_rods(rods):
            return [WRONG_ROW]
        self.rods = rods
        self.hinges = [0] * (len(rods) - 1)
        return [sum(rods)]

    def fold(self, hinges):
        if not are_hinges(hinges, len(self.hinges)):
            return [WRONG_ROW]
        self.hinges = hinges
        places = joint_places(self.rods, self.hinges)
        return [spread(places), thickness(places)]

    def turn(self, hinge):
        if hinge >= len(self.hinges):
            return [NO_SUCH_HINGE]
        turned = list(self.hinges)
        turned[hinge] = 1 - turned[hinge]
        return self.fold(turned)

    def lies(self):
        places = joint_places(self.rods, self.hinges)
        return [len(places)] + places

    def spreads_of(self, ways):
        return [spread(joint_places(self.rods, way)) for way in ways]

    def shortest(self):
        ways = all_ways(len(self.hinges))
        spreads = self.spreads_of(ways)
        least = min(spreads)
        return [least, spreads.count(least)] + ways[spreads.index(least)]

    def fits(self, length):
        spreads = self.spreads_of(all_ways(len(self.hinges)))
        return [len([found for found in spreads if found <= length])]


def numbers_begin(calls, at):
    if calls[at] in (RULE, FOLD):
        return at + 2
    return at + 1


def numbers_end(calls, at):
    if calls[at] in (RULE, FOLD):
        return at + 2 + calls[at + 1]
    if calls[at] in (TURN, FITS):
        return at + 2
    return at + 1


def answer_of(rule, call, numbers):
    if call == RULE:
        return rule.renew(numbers)
    if call == FOLD:
        return rule.fold(numbers)
    if call == TURN:
        return rule.turn(numbers[0])
    if call == LIES:
        return rule.lies()
    if call == SHORTEST:
        return rule.shortest()
    if call == FITS:
        return rule.fits(numbers[0])
    raise UnknownCall(f"no call has the number {call}")


def answers(calls):
    rule = FoldingRule()
    told = []
    at = 0
    while at < len(calls):
        end = numbers_end(calls, at)
        answer = answer_of(rule, calls[at], calls[numbers_begin(calls, at):end])
        told.append(len(answer))
        told.extend(answer)
        at = end
    return told
