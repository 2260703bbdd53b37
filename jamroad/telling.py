"""What holds a car up, and whether it ever stands right behind the one in front of it."""

from jamroad.answers import Clear, Held, Touch
from jamroad.checks import check_car, check_cars, check_has_one_in_front, check_steps
from jamroad.roads import free_from, holders, let_to, nearest


def held(cars, car, steps):
    check_cars(cars)
    check_car(cars, car)
    check_steps(steps)
    by = holders(cars, steps)[car]
    return Held(let_to(cars, car, by, steps), by)


# A car stays at a step just if it stood right behind the one in front before it. So one that is free from the
# first never touches, and any other does so before the last step at which it stays.
def touches(cars, car):
    check_cars(cars)
    check_has_one_in_front(cars, car)
    free = free_from(cars)[car]
    if free > 0:
        return Touch(free - 1)
    return Clear(nearest(cars, car))
