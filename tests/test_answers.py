"""Answers made by hand: `shows` is True just where it is so as points [2] and [4] tell it, and False else."""

import unittest

from by_hand import HUGE, HUGER, NO_WHOLE_NUMBERS, WIDE_ROADS, run_by_hand, small_roads, step_by_hand
from jamroad.answers import Answer, Clear, Held, Touch

FAR_OUT = [-1, -2, -HUGE, -HUGER, HUGE, HUGER]


def lets_to(cars, car, steps):
    """Point [2], word by word: how far the car is let by itself and by each of the cars that let it."""
    return {by: cars[by] + steps - 2 * (by - car) for by in range(car, len(cars)) if by - car <= steps}


def is_held(place, by, cars, car, steps):
    lets = lets_to(cars, car, steps)
    return place == run_by_hand(cars, steps)[car] and by in lets and lets[by] == place


def gaps_by_hand(cars, car):
    """How far the car is behind the one in front of it, after each count of steps until all are free for long."""
    gaps = []
    for step in range(2 * len(cars) + 5):
        gaps.append(cars[car + 1] - cars[car])
        cars = step_by_hand(cars)
    return gaps


class Classes(unittest.TestCase):
    def test_each_is_straight_under_answer(self):
        for answer in (Held, Touch, Clear):
            self.assertEqual(answer.__bases__, (Answer,))

    def test_fields(self):
        self.assertEqual(vars(Held(3, 1)), {"place": 3, "by": 1})
        self.assertEqual(vars(Held(by=1, place=3)), {"place": 3, "by": 1})
        self.assertEqual(vars(Touch(4)), {"steps": 4})
        self.assertEqual(vars(Touch(steps=4)), {"steps": 4})
        self.assertEqual(vars(Clear(5)), {"gap": 5})
        self.assertEqual(vars(Clear(gap=5)), {"gap": 5})

    def test_shows_takes_its_arguments_by_name(self):
        self.assertIs(Held(1, 1).shows(cars=[0, 1], car=0, steps=2), True)
        self.assertIs(Touch(0).shows(cars=[0, 1], car=0), True)
        self.assertIs(Clear(2).shows(cars=[0, 2], car=0), True)


class HeldShows(unittest.TestCase):
    def test_small_roads(self):
        for cars in small_roads(-2, 3):
            for car in range(len(cars)):
                for steps in range(len(cars) + 2):
                    for by in range(-len(cars) - 1, len(cars) + 2):
                        for place in range(-5, 3 + steps + 2):
                            self.assertIs(
                                Held(place, by).shows(cars, car, steps), is_held(place, by, cars, car, steps),
                                (place, by, cars, car, steps),
                            )

    def test_wide_roads(self):
        for cars in WIDE_ROADS:
            for car in range(len(cars)):
                for steps in (0, 1, 2, 3, 10, 40):
                    place = run_by_hand(cars, steps)[car]
                    lets = lets_to(cars, car, steps)
                    for by in range(-2, len(cars) + 2):
                        shown = Held(place, by).shows(cars, car, steps)
                        self.assertIs(shown, lets.get(by) == place, (cars, car, steps, by))
                        if by in lets and lets[by] != place:
                            self.assertIs(Held(lets[by], by).shows(cars, car, steps), False)

    def test_written_out(self):
        cars = [0, 1, 2]
        # After two steps the hindmost has not moved: the foremost of all holds it there.
        self.assertIs(Held(0, 2).shows(cars, 0, 2), True)
        self.assertIs(Held(1, 1).shows(cars, 0, 2), False)
        self.assertIs(Held(2, 0).shows(cars, 0, 2), False)
        # After one step the foremost does not let it yet: it is two cars ahead.
        self.assertIs(Held(0, 1).shows(cars, 0, 1), True)
        self.assertIs(Held(-1, 2).shows(cars, 0, 1), False)
        self.assertIs(Held(0, 2).shows(cars, 0, 1), False)
        # Two that let it just as far: each is told rightly.
        self.assertIs(Held(5, 0).shows([0, 2], 0, 5), True)
        self.assertIs(Held(5, 1).shows([0, 2], 0, 5), True)

    def test_one_too_many_cars_ahead_for_the_steps(self):
        cars = [0, 2, 4]
        self.assertIs(Held(1, 1).shows(cars, 0, 1), True)
        self.assertIs(Held(1, 2).shows(cars, 0, 1), False)
        self.assertIs(Held(2, 2).shows(cars, 0, 2), True)
        self.assertIs(Held(0, 1).shows(cars, 0, 0), False)

    def test_a_car_behind_lets_none(self):
        # Reckoned on, these would come to the right place.
        self.assertIs(Held(7, 0).shows([0, 2, 4], 1, 5), False)
        self.assertIs(Held(9, 1).shows([0, 2, 4], 2, 5), False)
        self.assertIs(Held(9, -1).shows([0, 2, 4], 2, 5), False)

    def test_by_far_out(self):
        cars = [0, 1, 5]
        for steps in (0, 1, 9, HUGE):
            for car in range(3):
                for by in [*FAR_OUT, 3, -3]:
                    for place in [*FAR_OUT, cars[car], cars[car] + steps, cars[car] + steps - 2 * (by - car)]:
                        self.assertIs(Held(place, by).shows(cars, car, steps), False)

    def test_place_far_out(self):
        for place in FAR_OUT:
            for by in range(3):
                self.assertIs(Held(place, by).shows([0, 1, 5], by, 3), False)

    def test_car_far_out(self):
        for car in [*FAR_OUT, 3, -3]:
            for by in [car, *range(-3, 4)]:
                for place in range(-3, 9):
                    self.assertIs(Held(place, by).shows([0, 1, 5], car, 3), False)
            self.assertIs(Held(0, 0).shows([], car, 3), False)
        self.assertIs(Held(0, 0).shows([], 0, 0), False)

    def test_steps_however_great(self):
        for steps in (HUGE, HUGER):
            self.assertIs(Held(steps - 2, 2).shows([0, 1, 2], 0, steps), True)
            self.assertIs(Held(steps - 1, 1).shows([0, 1, 2], 0, steps), False)
            self.assertIs(Held(steps - 1, 2).shows([0, 1, 2], 0, steps), False)
            self.assertIs(Held(steps, 0).shows([0, 1, 2], 0, steps), False)
            self.assertIs(Held(HUGER + steps, 0).shows([HUGER], 0, steps), True)

    def test_steps_less_than_0(self):
        for steps in (-1, -2, -HUGE, -HUGER):
            for cars in ([0], [0, 1, 5]):
                for place in (0, steps, -1):
                    self.assertIs(Held(place, 0).shows(cars, 0, steps), False)

    def test_after_a_field_was_given_another_value(self):
        answer = Held(0, 2)
        self.assertIs(answer.shows([0, 1, 2], 0, 2), True)
        answer.by = 1
        self.assertIs(answer.shows([0, 1, 2], 0, 2), False)
        answer.by = 2
        answer.place = 1
        self.assertIs(answer.shows([0, 1, 2], 0, 2), False)
        self.assertIs(answer.shows([0, 1, 2], 0, 3), True)
        answer.place = HUGER
        self.assertIs(answer.shows([0, 1, 2], 0, 3), False)

    def test_true_and_false_are_no_numbers(self):
        self.assertIs(Held(1, 0).shows([1], 0, 0), True)
        self.assertIs(Held(True, 0).shows([1], 0, 0), False)
        self.assertIs(Held(1, False).shows([1], 0, 0), False)
        self.assertIs(Held(1, 0).shows([1], False, 0), False)
        self.assertIs(Held(1, 0).shows([1], 0, False), False)

    def test_fields_of_another_kind(self):
        for value in NO_WHOLE_NUMBERS:
            self.assertIs(Held(value, 0).shows([0, 1], 0, 0), False)
            self.assertIs(Held(0, value).shows([0, 1], 0, 0), False)


class TouchShows(unittest.TestCase):
    def test_small_roads(self):
        for cars in small_roads():
            for car in range(len(cars) - 1):
                for steps, gap in enumerate(gaps_by_hand(cars, car)):
                    self.assertIs(Touch(steps).shows(cars, car), gap == 1, (cars, car, steps))

    def test_wide_roads(self):
        for cars in WIDE_ROADS:
            for car in range(len(cars) - 1):
                for steps, gap in enumerate(gaps_by_hand(cars, car)[:20]):
                    self.assertIs(Touch(steps).shows(cars, car), gap == 1, (cars, car, steps))

    def test_steps_far_out(self):
        for steps in (-1, -2, -HUGE, -HUGER):
            self.assertIs(Touch(steps).shows([0, 1], 0), False)
            self.assertIs(Touch(steps).shows([0, 1, 2, 3], 0), False)
        # By then all are free, and none stands right behind another.
        for steps in (HUGE, HUGER):
            for cars in WIDE_ROADS:
                for car in range(0, len(cars) - 1, 9):
                    self.assertIs(Touch(steps).shows(cars, car), False)

    def test_no_car_with_one_in_front(self):
        for car in [*FAR_OUT, 2, 3, -3]:
            for steps in (0, 1, HUGE):
                self.assertIs(Touch(steps).shows([0, 1, 2], car), False)
                self.assertIs(Touch(steps).shows([], car), False)
        self.assertIs(Touch(0).shows([], 0), False)
        self.assertIs(Touch(0).shows([0], 0), False)

    def test_after_a_field_was_given_another_value(self):
        answer = Touch(0)
        self.assertIs(answer.shows([0, 2, 3], 0), False)
        answer.steps = 1
        self.assertIs(answer.shows([0, 2, 3], 0), True)
        answer.steps = -1
        self.assertIs(answer.shows([0, 2, 3], 0), False)

    def test_other_kinds(self):
        for value in NO_WHOLE_NUMBERS:
            self.assertIs(Touch(value).shows([0, 2, 3], 0), False)
        self.assertIs(Touch(0).shows([0, 1], False), False)


class ClearShows(unittest.TestCase):
    def test_small_roads(self):
        for cars in small_roads():
            for car in range(len(cars) - 1):
                least = min(gaps_by_hand(cars, car))
                for gap in range(-8, 12):
                    self.assertIs(Clear(gap).shows(cars, car), gap == least and gap > 1, (cars, car, gap))

    def test_wide_roads(self):
        for cars in WIDE_ROADS:
            for car in range(len(cars) - 1):
                least = min(gaps_by_hand(cars, car))
                for gap in [*range(least - 5, least + 6), *range(-70, 3)]:
                    self.assertIs(Clear(gap).shows(cars, car), gap == least and gap > 1, (cars, car, gap))

    def test_written_out(self):
        self.assertIs(Clear(2).shows([0, 2], 0), True)
        self.assertIs(Clear(1).shows([0, 1], 0), False)
        # At first it is three behind, but the one in front stays once.
        self.assertIs(Clear(3).shows([0, 3, 4], 0), False)
        self.assertIs(Clear(2).shows([0, 3, 4], 0), True)
        # One more in that jam, and it touches.
        for gap in range(-5, 5):
            self.assertIs(Clear(gap).shows([0, 3, 4, 5], 0), False)

    def test_gap_far_out(self):
        for gap in FAR_OUT:
            self.assertIs(Clear(gap).shows([0, 5], 0), False)
            self.assertIs(Clear(gap).shows([0, 1], 0), False)
        self.assertIs(Clear(HUGER).shows([0, HUGER], 0), True)
        self.assertIs(Clear(2 * HUGER).shows([-HUGER, HUGER], 0), True)
        self.assertIs(Clear(2 * HUGER).shows([-HUGER, HUGER, HUGER + 1], 0), False)

    def test_no_car_with_one_in_front(self):
        for car in [*FAR_OUT, 2, 3, -3]:
            for gap in (2, 3, HUGE, HUGER):
                self.assertIs(Clear(gap).shows([0, 2, 5], car), False)
                self.assertIs(Clear(gap).shows([], car), False)
        self.assertIs(Clear(2).shows([], 0), False)
        self.assertIs(Clear(2).shows([0], 0), False)

    def test_after_a_field_was_given_another_value(self):
        answer = Clear(3)
        self.assertIs(answer.shows([0, 3], 0), True)
        answer.gap = 2
        self.assertIs(answer.shows([0, 3], 0), False)
        self.assertIs(answer.shows([0, 3, 4], 0), True)

    def test_other_kinds(self):
        for value in NO_WHOLE_NUMBERS:
            self.assertIs(Clear(value).shows([0, 3, 4], 0), False)
        self.assertIs(Clear(3).shows([0, 3], False), False)


class NothingChanged(unittest.TestCase):
    def test_neither_the_cars_nor_the_answer(self):
        cars = [0, 1, 2, 9]
        for answer, arguments in (
            (Held(0, 2), (0, 2)), (Held(7, 1), (0, 2)), (Touch(0), (0,)), (Touch(3), (0,)), (Clear(7), (2,)),
            (Clear(1), (0,)), (Held(1, 1), (HUGE, -1)), (Touch(-1), (-1,)), (Clear(-1), (-1,)),
        ):
            fields = dict(vars(answer))
            first = answer.shows(cars, *arguments)
            self.assertEqual(cars, [0, 1, 2, 9])
            self.assertEqual(vars(answer), fields)
            self.assertIs(answer.shows(cars, *arguments), first)

    def test_the_cars_are_not_kept(self):
        cars = [0, 1]
        answer = Touch(0)
        self.assertIs(answer.shows(cars, 0), True)
        cars[:] = [0, 5]
        self.assertIs(answer.shows(cars, 0), False)


if __name__ == "__main__":
    unittest.main()
