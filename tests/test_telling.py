"""held and touches, held against stepping car by car as point [1] tells it."""

import unittest

from by_hand import (
    HUGE, HUGER, NO_CARS, NO_STEPS, NO_WHOLE_NUMBERS, WIDE_ROADS, run_by_hand, small_roads, step_by_hand,
)
from jamroad.answers import Answer, Clear, Held, Touch
from jamroad.errors import BadCar, BadCars, BadSteps
from jamroad.telling import held, touches


class HeldTold(unittest.TestCase):
    def check(self, cars, car, steps, place):
        answer = held(cars, car, steps)
        told = (cars, car, steps, vars(answer))
        self.assertIs(type(answer), Held)
        self.assertIsInstance(answer, Answer)
        self.assertIs(type(answer.place), int)
        self.assertIs(type(answer.by), int)
        self.assertEqual(answer.place, place, told)
        # Point [2]: a car of these, not behind, no more cars ahead than there were steps, that lets it just so far.
        self.assertTrue(car <= answer.by < len(cars), told)
        self.assertLessEqual(answer.by - car, steps, told)
        self.assertEqual(cars[answer.by] + steps - 2 * (answer.by - car), place, told)
        self.assertIs(answer.shows(cars, car, steps), True, told)

    def test_small_roads(self):
        for cars in small_roads(-3, 4):
            places = cars
            for steps in range(13):
                for car, place in enumerate(places):
                    self.check(cars, car, steps, place)
                places = step_by_hand(places)

    def test_wide_roads(self):
        for cars in WIDE_ROADS:
            places = cars
            for steps in range(2 * len(cars) + 2):
                for car in range(0, len(cars), 1 if len(cars) < 10 else 5):
                    self.check(cars, car, steps, places[car])
                places = step_by_hand(places)

    def test_no_car_lets_less_than_the_one_told(self):
        for cars in small_roads(-3, 4):
            for car in range(len(cars)):
                for steps in range(10):
                    lets = [cars[by] + steps - 2 * (by - car) for by in range(car, len(cars)) if by - car <= steps]
                    self.assertEqual(held(cars, car, steps).place, min(lets), (cars, car, steps))

    def test_counts_of_steps_however_great(self):
        for cars in WIDE_ROADS:
            settled = run_by_hand(cars, len(cars))
            for steps in (HUGE, HUGER):
                for car in range(0, len(cars), 7):
                    answer = held(cars, car, steps)
                    self.assertTrue(answer.place == settled[car] + steps - len(cars))
                    self.assertTrue(cars[answer.by] + steps - 2 * (answer.by - car) == answer.place)
                    self.assertIs(answer.shows(cars, car, steps), True)

    def test_written_out(self):
        for cars, car, steps, place, by in (
            ([0], 0, 0, 0, 0),
            ([-3], 0, 5, 2, 0),
            ([0, 1, 2], 0, 0, 0, 0),
            ([0, 1, 2], 0, 1, 0, 1),
            ([0, 1, 2], 0, 2, 0, 2),
            ([0, 1, 2], 0, 10, 8, 2),
            ([0, 1, 2], 1, 10, 10, 2),
            ([0, 1, 2], 2, 10, 12, 2),
            ([0, 3, 4, 5], 0, 2, 2, 0),
            ([0, 3, 4, 5], 0, 3, 2, 3),
        ):
            answer = held(cars, car, steps)
            self.assertEqual((answer.place, answer.by), (place, by), (cars, car, steps))

    def test_many_cars(self):
        jam = list(range(20000))
        answer = held(jam, 0, HUGE)
        self.assertEqual((answer.place, answer.by), (HUGE - 19999, 19999))
        answer = held(jam, 0, 5)
        self.assertEqual((answer.place, answer.by), (0, 5))


class TouchesTold(unittest.TestCase):
    def check(self, cars, car):
        answer = touches(cars, car)
        told = (cars, car, vars(answer))
        self.assertIsInstance(answer, Answer)
        gaps = []
        places = cars
        for step in range(2 * len(cars) + 5):
            gaps.append(places[car + 1] - places[car])
            places = step_by_hand(places)
        if min(gaps) == 1:
            self.assertIs(type(answer), Touch, told)
            self.assertIs(type(answer.steps), int)
            self.assertGreaterEqual(answer.steps, 0, told)
            then = run_by_hand(cars, answer.steps)
            self.assertEqual(then[car] + 1, then[car + 1], told)
        else:
            self.assertIs(type(answer), Clear, told)
            self.assertIs(type(answer.gap), int)
            self.assertEqual(answer.gap, min(gaps), told)
        self.assertIs(answer.shows(cars, car), True, told)

    def test_small_roads(self):
        for cars in small_roads():
            for car in range(len(cars) - 1):
                self.check(cars, car)

    def test_wide_roads(self):
        for cars in WIDE_ROADS:
            for car in range(len(cars) - 1):
                self.check(cars, car)

    def test_written_out(self):
        for cars, car, gap in (
            ([0, 2], 0, 2),
            ([0, 9], 0, 9),
            ([0, 3, 4], 0, 2),
            ([0, 4, 5, 6], 0, 2),
            ([0, 1, HUGE], 1, HUGE - 1),
            ([-HUGER, HUGER], 0, 2 * HUGER),
        ):
            answer = touches(cars, car)
            self.assertIs(type(answer), Clear)
            self.assertTrue(answer.gap == gap)
        for cars, car in (
            ([0, 1], 0), ([0, 2, 3], 0), ([0, 3, 4, 5], 0), ([0, 2, 4, 6, 7], 0), ([HUGER, HUGER + 1], 0),
        ):
            self.assertIs(type(touches(cars, car)), Touch)

    def test_places_however_great(self):
        for cars in small_roads(-3, 3):
            for car in range(len(cars) - 1):
                near = touches(cars, car)
                for shift in (HUGER, -HUGER):
                    far = touches([place + shift for place in cars], car)
                    self.assertIs(type(far), type(near))
                    self.assertEqual(vars(far), vars(near))

    def test_many_cars(self):
        count = 20000
        # The jam's last car is reached after as long as it takes the whole jam to be gone.
        jam = [0] + list(range(count, 2 * count))
        answer = touches(jam, 0)
        self.assertIs(type(answer), Touch)
        self.assertIs(answer.shows(jam, 0), True)
        jam[0] = -1
        answer = touches(jam, 0)
        self.assertIs(type(answer), Clear)
        self.assertEqual(answer.gap, 2)


class NothingKeptOrChanged(unittest.TestCase):
    def test_what_is_handed_in_is_not_changed(self):
        for cars in WIDE_ROADS:
            handed = list(cars)
            for car in range(len(cars)):
                held(handed, car, 3)
                held(handed, car, HUGE)
            for car in range(len(cars) - 1):
                touches(handed, car)
            self.assertEqual(handed, cars)

    def test_what_is_told_is_new(self):
        cars = [0, 1, 2, 9]
        for ask in (lambda: held(cars, 0, 2), lambda: touches(cars, 0), lambda: touches(cars, 2)):
            first = ask()
            fields = dict(vars(first))
            for name in fields:
                setattr(first, name, -1)
            second = ask()
            self.assertIsNot(first, second)
            self.assertEqual(vars(second), fields)

    def test_what_is_handed_in_is_not_kept(self):
        cars = [0, 1, 2, 9]
        answers = [held(cars, 0, 2), touches(cars, 0), touches(cars, 2)]
        fields = [dict(vars(answer)) for answer in answers]
        cars[:] = [5, 50]
        self.assertEqual([vars(answer) for answer in answers], fields)
        self.assertEqual(held(cars, 0, 2).place, 7)
        self.assertEqual(touches(cars, 0).gap, 45)


NO_CAR = [-1, -2, -3, -HUGE, -HUGER, 3, 4, HUGE, HUGER, *NO_WHOLE_NUMBERS]


class Refusals(unittest.TestCase):
    def test_bad_cars(self):
        for number, cars in enumerate(NO_CARS):
            with self.subTest(number=number):
                with self.assertRaises(BadCars):
                    held(cars, 0, 0)
                with self.assertRaises(BadCars):
                    touches(cars, 0)

    def test_bad_car(self):
        for number, car in enumerate(NO_CAR):
            with self.subTest(number=number):
                with self.assertRaises(BadCar):
                    held([0, 1, 5], car, 0)
                with self.assertRaises(BadCar):
                    touches([0, 1, 5], car)

    def test_the_last_car_is_held_but_touches_none(self):
        for cars in ([0], [0, 1], [0, 1, 5]):
            last = len(cars) - 1
            self.assertEqual(held(cars, last, 2).by, last)
            with self.assertRaises(BadCar):
                touches(cars, last)

    def test_of_no_cars_there_is_no_car(self):
        for car in (0, 1, -1):
            with self.assertRaises(BadCar):
                held([], car, 0)
            with self.assertRaises(BadCar):
                touches([], car)

    def test_bad_steps(self):
        for number, steps in enumerate(NO_STEPS):
            with self.subTest(number=number):
                for car in range(3):
                    with self.assertRaises(BadSteps):
                        held([0, 1, 5], car, steps)

    def test_the_first_named_is_told(self):
        for cars in (None, (0, 1), [1, 0], [True], [0, 0], "c."):
            for wrong in NO_CAR:
                with self.assertRaises(BadCars):
                    held(cars, wrong, 0)
                with self.assertRaises(BadCars):
                    touches(cars, wrong)
            for steps in NO_STEPS:
                with self.assertRaises(BadCars):
                    held(cars, 0, steps)
                with self.assertRaises(BadCars):
                    held(cars, -1, steps)
        for car in NO_CAR:
            for steps in NO_STEPS:
                with self.assertRaises(BadCar):
                    held([0, 1, 5], car, steps)


if __name__ == "__main__":
    unittest.main()
