"""What is told of a car, each answer with a way to see for oneself whether it is so."""

from jamroad.checks import are_cars, has_one_in_front, is_car, is_count, is_whole
from jamroad.roads import after, let_to, nearest


# An answer's fields may be given any value later on, so `shows` takes nothing about them for granted.
class Answer:
    pass


class Held(Answer):
    def __init__(self, place, by):
        self.place = place
        self.by = by

    def shows(self, cars, car, steps):
        if not (are_cars(cars) and is_car(cars, car) and is_count(steps)):
            return False
        if not (is_whole(self.place) and is_car(cars, self.by)):
            return False
        if not 0 <= self.by - car <= steps:
            return False
        return self.place == after(cars, steps)[car] and self.place == let_to(cars, car, self.by, steps)


class Touch(Answer):
    def __init__(self, steps):
        self.steps = steps

    def shows(self, cars, car):
        if not (are_cars(cars) and has_one_in_front(cars, car) and is_count(self.steps)):
            return False
        places = after(cars, self.steps)
        return places[car] + 1 == places[car + 1]


class Clear(Answer):
    def __init__(self, gap):
        self.gap = gap

    def shows(self, cars, car):
        if not (are_cars(cars) and has_one_in_front(cars, car) and is_whole(self.gap)):
            return False
        return self.gap > 1 and self.gap == nearest(cars, car)
