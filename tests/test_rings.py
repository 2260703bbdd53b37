"""around, around_after, flow, settled and exchanged, held against stepping place by place as point [5] tells it."""

import unittest

from by_hand import (
    HUGE, HUGER, NO_RINGS, NO_STEPS, WIDE_RINGS, around_after_by_hand, around_by_hand, flow_by_hand, settled_by_hand,
    small_rings,
)
from jamroad.errors import BadRing, BadSteps
from jamroad.rings import around, around_after, exchanged, flow, settled


def begun_at(ring, place):
    return ring[place:] + ring[:place]


class Around(unittest.TestCase):
    def test_small_rings(self):
        for ring in small_rings():
            self.assertEqual(around(ring), around_by_hand(ring), ring)

    def test_wide_rings(self):
        for ring in WIDE_RINGS:
            self.assertEqual(around(ring), around_by_hand(ring), ring)

    def test_written_out(self):
        for ring, moved in (
            ("c", "c"), (".", "."), ("c.", ".c"), (".c", "c."), ("cc", "cc"), ("..", ".."),
            ("cc.", "c.c"), ("c.c", ".cc"), (".cc", "cc."), ("c..c", ".c.c"), ("..c", "c.."), ("ccc..", "cc.c."),
        ):
            self.assertEqual(around(ring), moved, ring)


class AroundAfterAndFlow(unittest.TestCase):
    def test_small_rings(self):
        for ring in small_rings():
            by_hand = ring
            for steps in range(len(ring) + 4):
                self.assertEqual(around_after(ring, steps), by_hand, (ring, steps))
                self.assertEqual(flow(ring, steps), flow_by_hand(by_hand), (ring, steps))
                by_hand = around_by_hand(by_hand)

    def test_wide_rings(self):
        for ring in WIDE_RINGS:
            by_hand = ring
            for steps in range(2 * len(ring) + 4):
                self.assertEqual(around_after(ring, steps), by_hand, (ring, steps))
                self.assertEqual(flow(ring, steps), flow_by_hand(by_hand), (ring, steps))
                by_hand = around_by_hand(by_hand)

    def test_counts_of_steps_however_great(self):
        for rings, counts in (
            (list(small_rings(7)), [HUGE + k for k in range(4)] + [HUGER]),
            (WIDE_RINGS, [HUGE + k for k in range(4)] + [HUGER, HUGER + 1]),
        ):
            for ring in rings:
                for steps in counts:
                    then = around_after_by_hand(ring, steps)
                    self.assertTrue(around_after(ring, steps) == then, ring)
                    self.assertTrue(flow(ring, steps) == flow_by_hand(then), ring)

    def test_no_steps(self):
        for ring in WIDE_RINGS:
            self.assertEqual(around_after(ring, 0), ring)

    def test_flow_written_out(self):
        for ring, steps, count in (
            ("c", 0, 0), (".", 0, 0), ("c", HUGE, 0), (".", HUGE, 0), ("ccc", 3, 0), ("...", 3, 0),
            ("c.", 0, 1), (".c", 0, 1), ("cc..", 0, 1), ("cc..", 1, 2), ("ccc..", 0, 1), ("ccc..", 1, 2), ("ccc..", 9, 2),
            ("c..c", 0, 1), ("c..c", 1, 2),
        ):
            self.assertEqual(flow(ring, steps), count, (ring, steps))

    def test_no_more_flow_than_cars_or_gaps_and_as_many_cars_as_before(self):
        for ring in WIDE_RINGS:
            for steps in (0, 1, 2, 5, 19, 20, 21, HUGE):
                then = around_after(ring, steps)
                self.assertEqual(len(then), len(ring))
                self.assertEqual(then.count("c"), ring.count("c"))
                self.assertLessEqual(flow(ring, steps), min(ring.count("c"), ring.count(".")))

    def test_a_long_ring(self):
        half = 20000
        self.assertEqual(around_after("c" * half + "." * half, half - 1), "c." * half)
        self.assertEqual(flow("c" * half + "." * half, half - 2), half - 1)
        self.assertEqual(around_after("c" * half + ".", half), "." + "c" * half)


class Settled(unittest.TestCase):
    def test_small_rings(self):
        for ring in small_rings():
            self.assertEqual(settled(ring), settled_by_hand(ring), ring)

    def test_wide_rings(self):
        for ring in WIDE_RINGS:
            self.assertEqual(settled(ring), settled_by_hand(ring), ring)

    def test_half_the_places_at_most(self):
        for ring in [*small_rings(), *WIDE_RINGS]:
            self.assertLessEqual(settled(ring), len(ring) // 2, ring)

    def test_from_then_on_the_flow_is_the_lesser_count(self):
        for ring in WIDE_RINGS:
            least = settled(ring)
            most = min(ring.count("c"), ring.count("."))
            for steps in (least, least + 1, least + 2, least + len(ring), least + HUGE):
                self.assertEqual(flow(ring, steps), most, ring)
            if least > 0:
                self.assertLess(flow(ring, least - 1), most, ring)

    def test_from_then_on_cars_or_gaps_go_round_one_place_a_step(self):
        for ring in WIDE_RINGS:
            then = around_after(ring, settled(ring))
            on = begun_at(then, -1) if ring.count("c") <= ring.count(".") else begun_at(then, 1)
            self.assertEqual(around(then), on, ring)

    def test_written_out(self):
        for ring, least in (
            ("c", 0), (".", 0), ("ccc", 0), ("...", 0), ("c.", 0), ("c..", 0), ("cc.", 0),
            ("cc..", 1), ("c..c", 1), ("ccc...", 2), ("cccc....", 3), ("ccc..", 1), ("cc...", 1),
        ):
            self.assertEqual(settled(ring), least, ring)

    def test_a_long_ring(self):
        half = 20000
        self.assertEqual(settled("c" * half + "." * half), half - 1)
        self.assertEqual(settled("c" * half), 0)


class Exchanged(unittest.TestCase):
    def test_place_by_place(self):
        for ring in [*small_rings(), *WIDE_RINGS]:
            other = exchanged(ring)
            self.assertEqual(len(other), len(ring))
            for place, sign in enumerate(ring):
                self.assertEqual(other[len(ring) - 1 - place], {"c": ".", ".": "c"}[sign], ring)

    def test_written_out(self):
        for ring, other in (("c", "."), (".", "c"), ("c.", "c."), (".c", ".c"), ("cc.", "c.."), ("ccc", "...")):
            self.assertEqual(exchanged(ring), other)

    def test_twice_is_the_ring_itself(self):
        for ring in [*small_rings(), *WIDE_RINGS]:
            self.assertEqual(exchanged(exchanged(ring)), ring)

    def test_a_step_on_the_exchanged_ring_is_the_exchanged_ring_a_step_on(self):
        for ring in [*small_rings(), *WIDE_RINGS]:
            self.assertEqual(around(exchanged(ring)), exchanged(around(ring)), ring)
            self.assertEqual(around_by_hand(exchanged(ring)), exchanged(around_by_hand(ring)), ring)
            for steps in (0, 3, HUGE):
                self.assertEqual(around_after(exchanged(ring), steps), exchanged(around_after(ring, steps)), ring)
                self.assertEqual(flow(exchanged(ring), steps), flow(ring, steps), ring)
            self.assertEqual(settled(exchanged(ring)), settled(ring), ring)


class BegunAtAnotherPlace(unittest.TestCase):
    def check(self, ring):
        for place in range(1, len(ring)):
            turned = begun_at(ring, place)
            self.assertEqual(around(turned), begun_at(around(ring), place), (ring, place))
            for steps in (2, 5, HUGE):
                self.assertEqual(around_after(turned, steps), begun_at(around_after(ring, steps), place), (ring, place))
                self.assertEqual(flow(turned, steps), flow(ring, steps), (ring, place))
            self.assertEqual(settled(turned), settled(ring), (ring, place))

    def test_small_rings(self):
        for ring in small_rings(7):
            self.check(ring)

    def test_wide_rings(self):
        for ring in WIDE_RINGS:
            self.check(ring)


ASKED = {
    "around": around,
    "exchanged": exchanged,
    "around_after": lambda ring: around_after(ring, 3),
    "around_after no steps": lambda ring: around_after(ring, 0),
    "flow": lambda ring: flow(ring, 3),
    "settled": settled,
}


class Told(unittest.TestCase):
    def test_kinds(self):
        for name, ask in ASKED.items():
            for ring in WIDE_RINGS:
                self.assertIs(type(ask(ring)), int if name in ("flow", "settled") else str, name)

    def test_what_is_told_is_the_same_each_time(self):
        for name, ask in ASKED.items():
            first = [ask(ring) for ring in WIDE_RINGS]
            self.assertEqual([ask(ring) for ring in WIDE_RINGS], first, name)


class Refusals(unittest.TestCase):
    def test_bad_ring(self):
        for name, ask in ASKED.items():
            for number, ring in enumerate(NO_RINGS):
                with self.subTest(asked=name, number=number):
                    with self.assertRaises(BadRing):
                        ask(ring)

    def test_bad_steps(self):
        for ring in ("c", ".", "c.", "cc.", "c.."):
            for number, steps in enumerate(NO_STEPS):
                with self.subTest(ring=ring, number=number):
                    with self.assertRaises(BadSteps):
                        around_after(ring, steps)
                    with self.assertRaises(BadSteps):
                        flow(ring, steps)

    def test_bad_ring_before_bad_steps(self):
        for ring in ("", "x", "c. ", None, True, ["c"], b"c."):
            for number, steps in enumerate(NO_STEPS):
                with self.subTest(ring=ring, number=number):
                    with self.assertRaises(BadRing):
                        around_after(ring, steps)
                    with self.assertRaises(BadRing):
                        flow(ring, steps)

    def test_what_is_refused_is_not_changed(self):
        for ask in ASKED.values():
            signs = ["c", "."]
            with self.assertRaises(BadRing):
                ask(signs)
            self.assertEqual(signs, ["c", "."])


if __name__ == "__main__":
    unittest.main()
