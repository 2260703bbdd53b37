"""What the tests hold the program against: stepping car by car and place by place, and inputs for all of them."""

import itertools

HUGE = 10 ** 60
# Longer than Python is willing to write out.
HUGER = 10 ** 6000


def step_by_hand(cars):
    taken = set(cars)
    return [place if place + 1 in taken else place + 1 for place in cars]


def run_by_hand(cars, steps):
    for step in range(steps):
        cars = step_by_hand(cars)
    return cars


def small_roads(least=-4, most=4):
    """Every choice of places out of nine or as many as are asked for, some of which are less than 0."""
    places = range(least, most + 1)
    for count in range(len(places) + 1):
        for cars in itertools.combinations(places, count):
            yield list(cars)


def spaced(first, gaps):
    return list(itertools.accumulate(gaps, initial=first))


WIDE_ROADS = [
    [],
    [0],
    [-7],
    [HUGE],
    [-HUGE, 0, HUGE],
    [HUGE, HUGE + 1, HUGE + 2, HUGE + 4],
    [-HUGE - 1, -HUGE, -HUGE + 1, -3, -2, -1, 0, 1],
    list(range(-20, 20)),
    list(range(0, 80, 2)),
    list(range(0, 120, 3)),
    spaced(0, [1] * 10 + [100] + [1] * 10),
    spaced(0, [3] * 8 + [1] * 8 + [2] * 8 + [1] * 4),
    spaced(-50, [1, 1, 4] * 12),
    spaced(5, [1 + (k * k * 7) % 4 for k in range(45)]),
    spaced(-5, [1 + (k * k * k + k // 3) % 3 for k in range(45)]),
    spaced(-5, [1 + (k * 5 % 13) // 6 for k in range(60)]),
]

NO_WHOLE_NUMBERS = [
    True, False, None, 0.0, 1.0, 2.5, float("inf"), float("nan"), 1j, "", "0", "1", b"1", [], [1], (), (1,), {}, {1: 1},
    set(), {1}, range(2), object(), int, len,
]

NO_CARS = [
    (), (0,), (0, 1), {}, {0: 0}, set(), {0, 1}, range(3), "", "c.", "01", b"01", bytearray(b"01"), 0, 7, -1, 1.5,
    True, False, None, object(), list, iter([0, 1]), (place for place in [0, 1]),
    [0, 0], [1, 0], [0, 1, 1], [0, 2, 1], [0, 0, 1], [5, 4, 3], [-1, -2], [0, 1, 2, 3, 2], [HUGER, HUGER], [0, -HUGER],
    [False, 1], [0, True], [True], [False], [-1, False, True], [True, 2, 3], [-1, 0, True],
    *[[value] for value in NO_WHOLE_NUMBERS],
    *[[-5, value] for value in NO_WHOLE_NUMBERS],
    *[[value, 5] for value in NO_WHOLE_NUMBERS],
    *[[-5, value, 5] for value in NO_WHOLE_NUMBERS],
    *[[1, 0, value] for value in NO_WHOLE_NUMBERS],
]

NO_STEPS = [-1, -2, -HUGE, -HUGER, *NO_WHOLE_NUMBERS]


def moves_by_hand(ring, place):
    """Whether a car stands at that place of the ring that moves at the next step."""
    return ring[place] == "c" and ring[(place + 1) % len(ring)] == "."


def flow_by_hand(ring):
    return sum(moves_by_hand(ring, place) for place in range(len(ring)))


def around_by_hand(ring):
    signs = list(ring)
    for place in range(len(ring)):
        if moves_by_hand(ring, place):
            signs[place] = "."
    for place in range(len(ring)):
        if moves_by_hand(ring, place):
            signs[(place + 1) % len(ring)] = "c"
    return "".join(signs)


def around_after_by_hand(ring, steps):
    """Steps until the ring is as it was once before, and from then on goes round that circle."""
    seen = {}
    states = []
    while ring not in seen:
        seen[ring] = len(states)
        states.append(ring)
        if len(states) > steps:
            return states[steps]
        ring = around_by_hand(ring)
    begun = seen[ring]
    return states[begun + (steps - begun) % (len(states) - begun)]


def settled_by_hand(ring):
    """The least count of steps from which on the flow is as great as it can be, seen over three rounds."""
    most = min(ring.count("c"), ring.count("."))
    least = 0
    for step in range(3 * len(ring) + 3):
        if flow_by_hand(ring) < most:
            least = step + 1
        ring = around_by_hand(ring)
    return least


def small_rings(most=10):
    for count in range(1, most + 1):
        for signs in itertools.product("c.", repeat=count):
            yield "".join(signs)


def patterned(count, rule):
    return "".join("c" if rule(place) else "." for place in range(count))


WIDE_RINGS = [
    "c", ".",
    "c" * 37, "." * 37,
    "c" * 20 + "." * 20, "c" * 21 + "." * 20, "c" * 20 + "." * 21,
    "." * 20 + "c" * 20, "." * 5 + "c" * 20 + "." * 15,
    "c" + "." * 30, "." * 30 + "c", "c" * 30 + ".", "." + "c" * 30,
    "cc" + "." * 30, "c." * 20, ".c" * 20, "c." * 20 + "c", "c." * 20 + ".",
    "ccc" + "c." * 15 + "...", "c" * 12 + "." * 30, "c" * 30 + "." * 12,
    "cccc..cc....c.c.ccc..." * 3,
    patterned(61, lambda place: place * place * 7 % 11 < 5),
    patterned(60, lambda place: place * place * place % 13 < 6),
    patterned(64, lambda place: (place * 5 + place // 7) % 9 < 6),
    patterned(53, lambda place: (place * place + place // 3) % 10 < 3),
]

# Signs that look alike, or differ in a way that some treatment of texts does away with, among them.
NO_RINGS = [
    "", " ", "C", "o", "x", "0", "1", "\n", "\0", "-", "_", ",", "c,", "c. ", " c.", "c .", "c.\n", "\nc.", "c.C", "C.",
    "cxc", ".x.", "x..", "..x", "c.c.c.X", "\u0441.", "c\uff0e", "c\u2024", "c\u00b7", "c\u0307.", "c\u200b.", "\ufeffc.",
    "\u2026", "\ud800", "c.\ud800", "\U0001f697.",
    b"", b"c.", bytearray(b"c."), ["c", "."], ["c."], [], ("c", "."), ("c.",), (), {"c": "."}, {}, {"c", "."}, {"c"},
    frozenset("c."), iter("c."), (sign for sign in "c."), range(2), 0, 1, -1, HUGER, 1.5, float("nan"), 1j, True, False,
    None, object(), str, len,
]
