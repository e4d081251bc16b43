"""Lines of calls written plainly, and a slow second telling of the document to hold answers against."""

import itertools

from foldingrule.hinged import answers

MOST = 4294967295


def rule(*rods):
    return [0, len(rods), *rods]


def fold(*hinges):
    return [1, len(hinges), *hinges]


def turn(hinge):
    return [2, hinge]


def lies():
    return [3]


def shortest():
    return [4]


def fits(length):
    return [5, length]


def line(*calls):
    return [number for call in calls for number in call]


def split(told):
    parts = []
    at = 0
    while at < len(told):
        end = at + 1 + told[at]
        assert told[at] >= 1 and end <= len(told), told
        parts.append(told[at + 1:end])
        at = end
    return parts


def asked(*calls):
    """What each call of one line answers, call by call."""
    parts = split(answers(line(*calls)))
    assert len(parts) == len(calls), parts
    return parts


def last(*calls):
    return asked(*calls)[-1]


def slow_places(rods, hinges):
    return [
        sum(rods[i] * (-1) ** sum(hinges[:i]) for i in range(joint))
        for joint in range(len(rods) + 1)
    ]


def slow_spread(rods, hinges):
    places = slow_places(rods, hinges)
    return max(abs(a - b) for a in places for b in places)


def slow_thickness(rods, hinges):
    over = {}
    places = slow_places(rods, hinges)
    for a, b in zip(places, places[1:]):
        for stretch in range(min(a, b), max(a, b)):
            over[stretch] = over.get(stretch, 0) + 1
    return max(over.values())


def slow_ways(rods):
    return list(itertools.product((0, 1), repeat=len(rods) - 1))


def slow_shortest(rods):
    spreads = {way: slow_spread(rods, way) for way in slow_ways(rods)}
    least = min(spreads.values())
    having = sorted(way for way in spreads if spreads[way] == least)
    return [least, len(having), *having[0]]


def slow_fits(rods, length):
    return [sum(1 for way in slow_ways(rods) if slow_spread(rods, way) <= length)]


def small_rules():
    for count in (1, 2, 3, 4):
        yield from itertools.product((1, 2, 3), repeat=count)


LONG_RULES = (
    (1,) * 10,
    (60,) * 10,
    (60, 1) * 5,
    (1, 2, 3, 4, 5, 6, 7, 8, 9, 10),
    (60, 59, 58, 57, 56, 55, 54, 53, 52, 51),
    (31, 7, 60, 12, 45, 2, 28, 53, 19, 40),
    (17, 17, 34, 5, 60, 60, 1, 44, 23),
)
