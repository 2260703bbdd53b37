"""What is handed in: whether it is what it should be, and its refusal where it is not."""

from jamroad.errors import BadCar, BadCars, BadRing, BadSteps


def is_whole(value):
    # Python counts True and False as ints; the road does not.
    return isinstance(value, int) and not isinstance(value, bool)


def are_cars(cars):
    if not isinstance(cars, list) or not all([is_whole(place) for place in cars]):
        return False
    return all([behind < ahead for behind, ahead in zip(cars, cars[1:])])


def is_car(cars, car):
    return is_whole(car) and 0 <= car < len(cars)


def has_one_in_front(cars, car):
    return is_car(cars, car) and car + 1 < len(cars)


def is_count(steps):
    return is_whole(steps) and steps >= 0


def is_ring(ring):
    return isinstance(ring, str) and len(ring) > 0 and ring.count("c") + ring.count(".") == len(ring)


# The errors' words never show what was handed in: Python refuses to write out very long numbers.
def check_cars(cars):
    if not are_cars(cars):
        raise BadCars("cars are a list of their places, whole numbers that rise")


def check_car(cars, car):
    if not is_car(cars, car):
        raise BadCar("a car is a whole number from 0 on, less than there are cars")


def check_has_one_in_front(cars, car):
    if not has_one_in_front(cars, car):
        raise BadCar("a car with one in front of it is a whole number from 0 on, less than the last car's")


def check_steps(steps):
    if not is_count(steps):
        raise BadSteps("a count of steps is a whole number from 0 on")


def check_ring(ring):
    if not is_ring(ring):
        raise BadRing("a ring is a text of c and . alone, of one place at least")
