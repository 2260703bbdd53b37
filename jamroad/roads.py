"""Cars on a road: where they are after some steps, and how long they are held up."""

from jamroad.checks import check_cars, check_steps


def stepped(cars):
    return after(cars, 1)


# Nothing here goes step by step, so that the count of steps may be however great.
def after(cars, steps):
    check_cars(cars)
    check_steps(steps)
    return [let_to(cars, car, by, steps) for car, by in enumerate(holders(cars, steps))]


# No car is more cars behind another than there are cars, so after that many steps nothing new holds one up.
def delays(cars):
    check_cars(cars)
    return [cars[car] - let_to(cars, car, by, 0) for car, by in enumerate(holders(cars, len(cars)))]


# What holds a car up reaches it one car a step, so it comes from as many cars ahead as there were steps.
def free_from(cars):
    check_cars(cars)
    return [by - car for car, by in enumerate(holders(cars, len(cars)))]


# How near a car with one in front of it would come to that one, if it moved at each step: only a stay of that
# one brings it a place nearer. At 1 or less it does touch, and stays; else it comes just so near.
def nearest(cars, car):
    return cars[car + 1] - delays(cars)[car + 1] - cars[car]


# How far a car is let by one that is not behind it. Two for each car between: it fills a place,
# and it is a step later that the next one can follow.
def let_to(cars, car, by, steps):
    return cars[by] + steps - 2 * (by - car)


# For each car the one that lets it least: itself, or one no more cars ahead than there are steps.
# Of several the nearest is told, since that one is the first to hold it so.
def holders(cars, steps):
    found = []
    # From `first` on: the cars that may still hold one up, the one that lets least first.
    line = []
    first = 0
    for car in range(len(cars) - 1, -1, -1):
        while len(line) > first and let_to(cars, car, line[-1], 0) >= cars[car]:
            line.pop()
        line.append(car)
        while line[first] - car > steps:
            first += 1
        found.append(line[first])
    found.reverse()
    return found
