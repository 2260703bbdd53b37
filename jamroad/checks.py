"""What is handed in, refused where it is not what it should be."""

from jamroad.errors import BadCars, BadSteps


def is_whole(value):
    # Python counts True and False as ints; the road does not.
    return isinstance(value, int) and not isinstance(value, bool)


# The errors' words never show what was handed in: Python refuses to write out very long numbers.
def check_cars(cars):
    if not isinstance(cars, list):
        raise BadCars("cars are a list of places")
    if not all([is_whole(place) for place in cars]):
        raise BadCars("a car's place is a whole number")
    if not all([behind < ahead for behind, ahead in zip(cars, cars[1:])]):
        raise BadCars("the cars' places rise")


def check_steps(steps):
    if not is_whole(steps) or steps < 0:
        raise BadSteps("a count of steps is a whole number from 0 on")
