"""Cars on a ring: where they are after some steps, how many move, and when all has settled."""

from jamroad.checks import check_ring, check_steps
from jamroad.roads import after, free_from


def around(ring):
    return around_after(ring, 1)


def exchanged(ring):
    check_ring(ring)
    return "".join(["." if sign == "c" else "c" for sign in reversed(ring)])


# A ring with more cars than gaps is asked as its exchanged ring, which goes on alike: see two_laps.
def around_after(ring, steps):
    check_ring(ring)
    check_steps(steps)
    if is_crowded(ring):
        return exchanged(around_after(exchanged(ring), steps))
    moved = after(two_laps(ring), steps)[:ring.count("c")]
    taken = {}
    for place in moved:
        taken[place % len(ring)] = True
    return "".join(["c" if place in taken else "." for place in range(len(ring))])


def flow(ring, steps):
    now = around_after(ring, steps)
    return (now + now[0]).count("c.")


# With no more cars than gaps all has settled when each car is free.
def settled(ring):
    check_ring(ring)
    if is_crowded(ring):
        return settled(exchanged(ring))
    return max(free_from(two_laps(ring))[:ring.count("c")], default=0)


def is_crowded(ring):
    return 2 * ring.count("c") > len(ring)


# The ring as a road, its cars twice over: those of the first lap go on there as on the ring. Whatever holds
# a car up is less than a lap ahead of it, since on a ring that is not crowded the same car a lap further on lets
# it no less: two less for each car, but as much more as there are places.
def two_laps(ring):
    places = [place for place, sign in enumerate(ring) if sign == "c"]
    return places + [place + len(ring) for place in places]
