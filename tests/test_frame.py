"""Promise 4: frame."""

import itertools
import unittest

from tests.helper import BEGIN, ask, ask_frame, frame, read, spelled, text
from tests.plain import told

EVERY = (1 << 64) - 1


class Conditions(unittest.TestCase):
    def test_each_alone(self):
        # Who sees itself sees one, so 2 never stands without 1.
        for rows, met in (
            ((0b010, 0b100, 0b001), 1),
            ((0b011, 0b110, 0b101), 1 + 2),
            ((0b110, 0b100, 0b000), 4),
            ((0b010, 0b101, 0b010, 0), 8),
            ((0b010, 0b110, 0b110, 0), 16),
        ):
            self.assertEqual(ask_frame(len(rows), rows), met, rows)

    def test_no_condition_met(self):
        self.assertEqual(ask_frame(3, (0b010, 0b100, 0b000)), 0)

    def test_all_together(self):
        self.assertEqual(ask_frame(1, (1,)), 31)
        self.assertEqual(ask_frame(2, (0b01, 0b10)), 31)
        self.assertEqual(ask_frame(2, (0b11, 0b11)), 31)
        self.assertEqual(ask_frame(3, (0b101, 0b010, 0b101)), 31)

    def test_all_but_one_that_can_be_missed_alone(self):
        self.assertEqual(ask_frame(1, (0,)), 4 + 8 + 16)
        self.assertEqual(ask_frame(2, (0b10, 0b10)), 1 + 4 + 16)
        self.assertEqual(ask_frame(2, (0b11, 0b10)), 1 + 2 + 4)
        self.assertEqual(ask_frame(3, (0b011, 0b111, 0b110)), 1 + 2 + 8)
        self.assertEqual(ask_frame(2, (0b10, 0b01)), 1 + 8)

    def test_every_frame_of_up_to_three_worlds(self):
        seen = set()
        for worlds in (1, 2, 3):
            for rows in itertools.product(range(1 << worlds), repeat=worlds):
                met = told(rows)
                seen.add(met)
                self.assertEqual(ask_frame(worlds, rows), met, rows)
        self.assertGreater(len(seen), 10)

    def test_four_worlds(self):
        for number in range(0, 1 << 16, 7):
            rows = [(number >> 4 * world) & 15 for world in range(4)]
            self.assertEqual(ask_frame(4, rows), told(rows), rows)

    def test_64_worlds(self):
        itself = [1 << world for world in range(64)]
        upward = [EVERY >> world << world for world in range(64)]
        ring = [1 << (world + 1) % 64 for world in range(64)]
        halves = [(1 << 32) - 1] * 32 + [EVERY - (1 << 32) + 1] * 32
        for rows, met in (
            ([EVERY] * 64, 31),
            ([0] * 64, 4 + 8 + 16),
            (itself, 31),
            (upward, 1 + 2 + 4),
            (ring, 1),
            (halves, 31),
            ([1 << 63] * 64, 1 + 4 + 16),
        ):
            self.assertEqual(told(rows), met)
            self.assertEqual(ask_frame(64, rows), met)

    def test_one_bit_amiss_among_64_worlds(self):
        for rows in ([EVERY] * 64, [1 << world for world in range(64)], [0] * 64):
            for world, bit in ((0, 63), (63, 0), (63, 63), (31, 32)):
                changed = list(rows)
                changed[world] ^= 1 << bit
                self.assertEqual(ask_frame(64, changed), told(changed))


class Refused(unittest.TestCase):
    def test_worlds_out_of_bounds(self):
        for worlds in (0, 65, 66, 128, 4294967295):
            self.assertEqual(ask_frame(worlds, ()), -1)

    def test_a_bit_of_a_world_that_is_not(self):
        for worlds in (1, 2, 3, 31, 32, 33, 62, 63):
            for place in {0, worlds // 2, worlds - 1}:
                for bit in {worlds, 63}:
                    rows = [1] * worlds
                    rows[place] |= 1 << bit
                    self.assertEqual(ask_frame(worlds, rows), -1)

    def test_the_highest_bit_that_may_be_set(self):
        for worlds in range(1, 65):
            rows = [(1 << worlds) - 1] * worlds
            self.assertEqual(ask_frame(worlds, rows), 31)

    def test_the_formula_is_neither_needed_nor_changed(self):
        got = ask(frame(1, (1,)), read("~a"), frame(1, (0,)), frame(0, ()), frame(1, (2,)), text(), BEGIN, frame(1, (1,)))
        self.assertEqual(got, [[31], [2], [28], [-1], [-1], spelled("~a"), [0], [31]])


if __name__ == "__main__":
    unittest.main()
