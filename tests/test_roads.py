"""stepped, after, delays and free_from, held against stepping car by car as point [1] tells it."""

import unittest

from by_hand import HUGE, HUGER, NO_CARS, NO_STEPS, WIDE_ROADS, run_by_hand, small_roads, step_by_hand
from jamroad.errors import BadCars, BadSteps
from jamroad.roads import after, delays, free_from, stepped


def stays_by_hand(cars, steps):
    """For each car the steps, counted from 0, in which it stays."""
    stays = [[] for place in cars]
    for step in range(steps):
        moved = step_by_hand(cars)
        for car, (old, new) in enumerate(zip(cars, moved)):
            if old == new:
                stays[car].append(step)
        cars = moved
    return stays


class Stepped(unittest.TestCase):
    def test_small_roads(self):
        for cars in small_roads():
            self.assertEqual(stepped(cars), step_by_hand(cars), cars)

    def test_wide_roads(self):
        for cars in WIDE_ROADS:
            self.assertEqual(stepped(cars), step_by_hand(cars), cars)

    def test_written_out(self):
        self.assertEqual(stepped([]), [])
        self.assertEqual(stepped([-1]), [0])
        # The place that a car leaves at a step is not free at that step.
        self.assertEqual(stepped([0, 1]), [0, 2])
        self.assertEqual(stepped([0, 2]), [1, 3])
        self.assertEqual(stepped([-2, -1, 0, 2, 3]), [-2, -1, 1, 2, 4])


class After(unittest.TestCase):
    def test_small_roads(self):
        for cars in small_roads():
            by_hand = cars
            for steps in range(13):
                self.assertEqual(after(cars, steps), by_hand, (cars, steps))
                by_hand = step_by_hand(by_hand)

    def test_wide_roads(self):
        for cars in WIDE_ROADS:
            for steps in range(2 * len(cars) + 5):
                self.assertEqual(after(cars, steps), run_by_hand(cars, steps), (cars, steps))

    def test_written_out(self):
        self.assertEqual(after([0, 1, 2], 1), [0, 1, 3])
        self.assertEqual(after([0, 1, 2], 2), [0, 2, 4])
        self.assertEqual(after([0, 1, 2], 3), [1, 3, 5])
        self.assertEqual(after([0, 1, 2], 10), [8, 10, 12])

    def test_no_steps(self):
        for cars in WIDE_ROADS:
            self.assertEqual(after(cars, 0), cars)

    def test_about_as_many_steps_as_cars(self):
        for cars in WIDE_ROADS:
            for steps in range(max(len(cars) - 2, 0), len(cars) + 3):
                self.assertEqual(after(cars, steps), run_by_hand(cars, steps), (cars, steps))

    def test_counts_of_steps_however_great(self):
        for cars in WIDE_ROADS:
            # By then no car is held up any more, and each goes on a place a step.
            settled = run_by_hand(cars, len(cars))
            for steps in (HUGE, HUGER):
                expected = [place + steps - len(cars) for place in settled]
                self.assertTrue(after(cars, steps) == expected)

    def test_places_however_great(self):
        for cars in WIDE_ROADS:
            for shift in (HUGER, -HUGER):
                shifted = [place + shift for place in cars]
                expected = [place + shift for place in run_by_hand(cars, 7)]
                self.assertTrue(after(shifted, 7) == expected)

    def test_many_cars(self):
        count = 20000
        jam = list(range(count))
        self.assertEqual(after(jam, 3), list(range(count - 3)) + [count - 2, count, count + 2])
        self.assertEqual(after(jam, 10 * count), [2 * car + 9 * count + 1 for car in range(count)])


class DelaysAndFreeFrom(unittest.TestCase):
    def check(self, cars):
        stays = stays_by_hand(cars, 2 * len(cars) + 5)
        self.assertEqual(delays(cars), [len(steps) for steps in stays], cars)
        self.assertEqual(free_from(cars), [steps[-1] + 1 if steps else 0 for steps in stays], cars)

    def test_small_roads(self):
        for cars in small_roads():
            self.check(cars)

    def test_wide_roads(self):
        for cars in WIDE_ROADS:
            self.check(cars)

    def test_places_however_great(self):
        for cars in WIDE_ROADS:
            for shift in (HUGER, -HUGER):
                shifted = [place + shift for place in cars]
                self.assertEqual(delays(shifted), delays(cars))
                self.assertEqual(free_from(shifted), free_from(cars))

    def test_written_out(self):
        for cars, delay, free in (
            ([], [], []),
            ([HUGE], [0], [0]),
            ([0, 1], [1, 0], [1, 0]),
            ([0, 2], [0, 0], [0, 0]),
            ([0, 1, 2], [2, 1, 0], [2, 1, 0]),
            # The hindmost goes on freely at first, and is held up by the jam only later.
            ([0, 2, 4, 5], [1, 1, 1, 0], [3, 2, 1, 0]),
            # Two free places behind a jam of two: it is gone before the hindmost comes; a jam of three is not.
            ([0, 3, 4], [0, 1, 0], [0, 1, 0]),
            ([0, 3, 4, 5], [1, 2, 1, 0], [3, 2, 1, 0]),
            # A jam further on that would hold it up no more than the nearer one did.
            ([0, 1, 4, 5], [1, 0, 1, 0], [1, 0, 1, 0]),
        ):
            self.assertEqual(delays(cars), delay, cars)
            self.assertEqual(free_from(cars), free, cars)

    def test_many_cars(self):
        count = 20000
        falling = list(range(count - 1, -1, -1))
        self.assertEqual(delays(list(range(count))), falling)
        self.assertEqual(free_from(list(range(count))), falling)
        self.assertEqual(delays(list(range(0, 2 * count, 2))), [0] * count)
        self.assertEqual(free_from(list(range(0, 2 * count, 2))), [0] * count)


ASKED = {
    "stepped": stepped,
    "after no steps": lambda cars: after(cars, 0),
    "after one step": lambda cars: after(cars, 1),
    "after many steps": lambda cars: after(cars, HUGE),
    "delays": delays,
    "free_from": free_from,
}


class NothingKeptOrChanged(unittest.TestCase):
    def test_what_is_handed_in_is_not_changed(self):
        for name, ask in ASKED.items():
            for cars in WIDE_ROADS:
                handed = list(cars)
                ask(handed)
                self.assertEqual(handed, cars, name)

    def test_what_is_told_is_a_new_list_of_whole_numbers(self):
        for name, ask in ASKED.items():
            for cars in WIDE_ROADS:
                told = ask(cars)
                self.assertIs(type(told), list, name)
                self.assertIsNot(told, cars, name)
                self.assertTrue(all(type(number) is int for number in told), name)

    def test_what_is_told_is_the_askers_own(self):
        for name, ask in ASKED.items():
            for cars in WIDE_ROADS:
                handed = list(cars)
                told = ask(handed)
                expected = list(told)
                told.append("the asker's")
                self.assertEqual(handed, cars, name)
                again = ask(handed)
                self.assertIsNot(again, told, name)
                self.assertEqual(again, expected, name)

    def test_what_is_handed_in_is_not_kept(self):
        for name, ask in ASKED.items():
            handed = [0, 1, 2, 9]
            told = ask(handed)
            expected = list(told)
            handed[:] = [5, 50]
            self.assertEqual(told, expected, name)
            self.assertEqual(ask(handed), ask([5, 50]), name)


class Refusals(unittest.TestCase):
    def test_bad_cars(self):
        for name, ask in ASKED.items():
            for number, cars in enumerate(NO_CARS):
                with self.subTest(asked=name, number=number):
                    with self.assertRaises(BadCars):
                        ask(cars)

    def test_a_list_that_holds_itself(self):
        cars = [0]
        cars.append(cars)
        for ask in ASKED.values():
            with self.assertRaises(BadCars):
                ask(cars)

    def test_bad_steps(self):
        for cars in ([], [0], [0, 1, 5]):
            for number, steps in enumerate(NO_STEPS):
                with self.subTest(cars=cars, number=number):
                    with self.assertRaises(BadSteps):
                        after(cars, steps)

    def test_bad_cars_before_bad_steps(self):
        for cars in (None, (0, 1), [1, 0], [True], [0, 0]):
            for number, steps in enumerate(NO_STEPS):
                with self.subTest(cars=cars, number=number):
                    with self.assertRaises(BadCars):
                        after(cars, steps)

    def test_what_is_refused_is_not_changed(self):
        for ask in ASKED.values():
            cars = [2, 1, "c"]
            with self.assertRaises(BadCars):
                ask(cars)
            self.assertEqual(cars, [2, 1, "c"])


if __name__ == "__main__":
    unittest.main()
