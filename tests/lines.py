"""Lines of calls written plainly, and a slow second telling of the document to hold answers against."""

import functools
import itertools

from foldingrule.hinged import answers

MOST = 4294967295


def rule(*rods):
    return [0, len(rods), *rods]


def fold(*hinges):
    return [1, len(hinges), *hinges]


def turn(hinge):
    return [2, hinge]


def lies():
    return [3]


def shortest():
    return [4]


def fits(length):
    return [5, length]


def thinnest(length):
    return [6, length]


def closed(distance):
    return [7, distance]


def mark(length):
    return [8, length]


def marks():
    return [9]


def change(length):
    return [10, length]


def line(*calls):
    return [number for call in calls for number in call]


def split(told):
    parts = []
    at = 0
    while at < len(told):
        end = at + 1 + told[at]
        assert told[at] >= 1 and end <= len(told), told
        parts.append(told[at + 1:end])
        at = end
    return parts


def asked(*calls):
    """What each call of one line answers, call by call."""
    parts = split(answers(line(*calls)))
    assert len(parts) == len(calls), parts
    return parts


def last(*calls):
    return asked(*calls)[-1]


def slow_places(rods, hinges):
    return [
        sum(rods[i] * (-1) ** sum(hinges[:i]) for i in range(joint))
        for joint in range(len(rods) + 1)
    ]


def slow_spread(rods, hinges):
    places = slow_places(rods, hinges)
    return max(abs(a - b) for a in places for b in places)


def slow_thickness(rods, hinges):
    over = {}
    places = slow_places(rods, hinges)
    for a, b in zip(places, places[1:]):
        for stretch in range(min(a, b), max(a, b)):
            over[stretch] = over.get(stretch, 0) + 1
    return max(over.values())


def slow_ways(rods):
    return list(itertools.product((0, 1), repeat=len(rods) - 1))


@functools.cache
def slow_measures(rods):
    """Of each way its spread, its thickness and its joints' places."""
    return {way: (slow_spread(rods, way), slow_thickness(rods, way), slow_places(rods, way)) for way in slow_ways(rods)}


def slow_shortest(rods):
    spreads = {way: spread for way, (spread, _, _) in slow_measures(rods).items()}
    least = min(spreads.values())
    having = sorted(way for way in spreads if spreads[way] == least)
    return [least, len(having), *having[0]]


def slow_within(rods, length):
    return {way: thickness for way, (spread, thickness, _) in slow_measures(rods).items() if spread <= length}


def slow_fits(rods, length):
    return [len(slow_within(rods, length))]


def slow_thinnest(rods, length):
    within = slow_within(rods, length)
    if not within:
        return [-6]
    least = min(within.values())
    having = sorted(way for way in within if within[way] == least)
    return [least, len(having), *having[0]]


def slow_closed(rods, distance):
    having = sorted(way for way, (_, _, places) in slow_measures(rods).items()
                    if distance in (places[-1] - places[0], places[0] - places[-1]))
    return [len(having), *having[0]] if having else [0]


@functools.cache
def slow_apart(rods):
    """Of each pair of joints how far apart they are in some way, tried way by way."""
    return {
        (i, j): {abs(places[i] - places[j]) for _, _, places in slow_measures(rods).values()}
        for i, j in itertools.combinations(range(len(rods) + 1), 2)
    }


def slow_mark(rods, length):
    if length == 0:
        return [-1]
    pairs = sorted(pair for pair, lengths in slow_apart(rods).items() if length in lengths)
    return [len(pairs), *pairs[0]] if pairs else [0]


def slow_marks(rods):
    lengths = set().union(*slow_apart(rods).values()) - {0}
    return [len(lengths), min(set(range(1, sum(rods) + 2)) - lengths)]


def slow_change(rods, lying, length):
    away = sorted((sum(map(int.__ne__, lying, way)), way) for way in slow_within(rods, length))
    return [away[0][0], *away[0][1]] if away else [-6]


def slow_asked(*calls):
    """What the document asks of each call of one line."""
    rods = (1,)
    way = ()
    told = []
    for number, *given in calls:
        row = tuple(given[1:])
        if number == 0 and len(row) in range(1, 11) and set(row) <= set(range(1, 61)):
            rods = row
            way = (0,) * (len(rods) - 1)
            told.append([sum(rods)])
        elif number == 0:
            told.append([-1])
        elif number == 1 and row not in slow_measures(rods):
            told.append([-1])
        elif number == 2 and given[0] not in range(len(way)):
            told.append([-2])
        elif number in (1, 2):
            way = row if number == 1 else tuple(hinge ^ (at == given[0]) for at, hinge in enumerate(way))
            told.append(list(slow_measures(rods)[way][:2]))
        elif number == 3:
            told.append([len(rods) + 1, *slow_places(rods, way)])
        elif number == 10:
            told.append(slow_change(rods, way, *given))
        else:
            told.append(SLOW_TELLINGS[number](rods, *given))
    return told


SLOW_TELLINGS = {
    4: slow_shortest, 5: slow_fits, 6: slow_thinnest, 7: slow_closed, 8: slow_mark, 9: slow_marks,
}


def small_rules():
    for count in (1, 2, 3, 4):
        yield from itertools.product((1, 2, 3), repeat=count)


LONG_RULES = (
    (1,) * 10,
    (60,) * 10,
    (60, 1) * 5,
    (1, 2, 3, 4, 5, 6, 7, 8, 9, 10),
    (60, 59, 58, 57, 56, 55, 54, 53, 52, 51),
    (31, 7, 60, 12, 45, 2, 28, 53, 19, 40),
    (17, 17, 34, 5, 60, 60, 1, 44, 23),
)
