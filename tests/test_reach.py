"""Promise 4: reach."""

import itertools
import random
import unittest

from asking import FEWEST, REACH, STATE, PlainRack, ask, begins, everything, fill, last, mixed_rack, pour, rack_of


class Reach(unittest.TestCase):
    def assert_reach(self, racks, in_order, none_leads, holds, tubes):
        """How many racks can come about, how many are sorted, from how many nothing leads to a sorted one."""
        self.assertEqual(last(rack_of(holds, tubes) + [REACH]), (racks, [in_order, none_leads]), tubes)

    def assert_too_many(self, holds, tubes):
        self.assertEqual(last(rack_of(holds, tubes) + [REACH]), -9, tubes)

    def test_nothing_can_be_poured(self):
        self.assert_reach(1, 0, 1, 1, [[0], [0]])
        self.assert_reach(1, 0, 1, 2, [[0, 1], [2]])
        self.assert_reach(1, 0, 1, 2, [[0, 1], [1, 0]])
        self.assert_reach(1, 0, 1, 4, [[0, 1, 0, 1], [1, 0, 1, 0]])

    def test_nothing_can_be_poured_and_it_is_sorted(self):
        self.assert_reach(1, 1, 0, 1, [[1], [0]])
        self.assert_reach(1, 1, 0, 4, [[0], [1, 1, 1]])
        self.assert_reach(1, 1, 0, 4, [[0] * 4, [1] * 4, [2] * 4, [3] * 4, [4] * 4])

    def test_an_empty_rack(self):
        for tubes in (2, 3, 4, 5):
            self.assert_reach(1, 1, 0, 4, [[]] * tubes)
        self.assertEqual(ask([REACH]), [(1, [1, 0])])

    def test_a_sorted_rack_where_drops_can_lie_elsewhere(self):
        self.assert_reach(2, 2, 0, 1, [[0], []])
        self.assert_reach(5, 5, 0, 4, [[], [], [3, 3, 3], [], []])
        # The one in any of three tubes, the other one in one of the two that are left.
        self.assert_reach(6, 6, 0, 2, [[0], [1, 1], []])
        # Each of 5 * 4 * 3 * 2 orders.
        self.assert_reach(120, 120, 0, 4, [[0], [1, 1], [2, 2, 2], [3, 3, 3, 3], []])

    def test_worked_out_by_hand(self):
        # The one that's there; both in tube 0; both in tube 1.
        self.assert_reach(3, 2, 0, 2, [[0], [0]])
        # From the one that's there only one pouring leads on, and none leads back.
        self.assert_reach(2, 1, 0, 2, [[0, 1], []])
        self.assert_reach(2, 1, 0, 2, [[0, 1], [1]])
        # 2 in tube 1 or in tube 2, each with 1 above 0 or in the third tube.
        self.assert_reach(4, 2, 0, 2, [[0, 1], [2], []])

    def test_from_some_nothing_leads_to_a_sorted_one(self):
        # It's the one with 1 alone in tube 2, and 2 above the other 1.
        self.assert_reach(7, 2, 1, 3, [[0, 1], [1, 2], []])
        self.assert_reach(300, 24, 30, 4, [[], [2, 0, 4, 1], [3, 1, 0, 1], [1, 4, 2, 4], []])
        self.assert_reach(300, 120, 44, 4, [[2, 0, 1, 3], [], [2, 0, 1, 3], [0, 1, 1, 2], []])

    def test_from_all_nothing_leads_to_a_sorted_one(self):
        # A drop in two of three tubes: three ways.
        self.assert_reach(3, 0, 3, 1, [[0], [0], []])
        self.assert_reach(6, 0, 6, 2, [[0, 0], [0], []])

    def test_what_no_pouring_leads_back_to_is_left_out(self):
        calls = rack_of(3, [[0, 1, 2], [], []]) + [REACH, pour(0, 1), REACH, pour(0, 2), REACH]
        self.assertEqual(ask(calls)[4:], [(5, [2, 0]), 1, (4, [2, 0]), 1, (1, [1, 0])])

    def test_by_a_plain_search_for_all_racks_of_a_size(self):
        colours = [list(row) for drops in (0, 1, 2) for row in itertools.product((0, 1), repeat=drops)]
        for tubes in itertools.product(colours, repeat=3):
            self.assertEqual(last(rack_of(2, tubes) + [REACH]), PlainRack(2, tubes).reach(), tubes)

    def test_by_a_plain_search(self):
        draw = random.Random(41)
        some_are_lost = 0
        for _ in range(300):
            holds, tubes = mixed_rack(draw)
            expected = PlainRack(holds, tubes).reach()
            self.assertEqual(last(rack_of(holds, tubes) + [REACH]), expected, tubes)
            some_are_lost += isinstance(expected, tuple) and 0 < expected[1][1] < expected[0]
        self.assertGreater(some_are_lost, 10)

    def test_as_many_racks_as_may_come_about(self):
        self.assert_reach(299, 120, 2, 3, [[0, 0, 1], [2, 3, 1], [], [], [0, 3, 2]])
        self.assert_reach(299, 0, 299, 4, [[], [1, 1, 1, 0], [0, 1, 0, 0], [0, 0, 1, 1], [0, 0, 1, 1]])
        self.assert_reach(300, 60, 0, 3, [[2], [], [2], [0, 1], [1, 1]])
        self.assert_reach(300, 120, 4, 3, [[0, 1, 1], [], [2, 1], [0, 3, 2], []])
        self.assert_reach(300, 0, 300, 4, [[], [], [0, 0, 0], [0, 0, 0], [1, 1, 0, 0]])

    def test_too_many_racks(self):
        # 301 racks: with a plan; from 52 nothing leads on; from all nothing does.
        self.assert_too_many(4, [[2], [4, 2], [], [2, 3, 0, 0], []])
        self.assert_too_many(4, [[0, 3, 3, 2], [], [0, 3, 1, 1], [], [2, 0, 1, 3]])
        self.assert_too_many(3, [[], [4, 2, 4], [3, 2, 2], [2, 3, 1], []])
        # 302 racks, as above.
        self.assert_too_many(4, [[3], [], [0, 1, 1, 3], [3, 3], []])
        self.assert_too_many(3, [[0, 2, 3], [], [], [0, 2, 1], [0, 2, 3]])
        self.assert_too_many(4, [[], [], [], [1, 1, 1], [1, 0, 1, 1]])
        # Far more.
        self.assert_too_many(4, [[0, 1, 2, 3], [1, 2, 3, 0], [2, 3, 0, 1], [], []])
        self.assert_too_many(4, [[0, 1, 2, 3], [3, 2, 1, 0], [], [], []])

    def test_it_is_told_of_the_rack_as_it_is(self):
        calls = rack_of(3, [[0, 1], [1, 2], []]) + [REACH, pour(0, 2), REACH, fill(1, []), REACH, begins(1, 2), REACH]
        self.assertEqual(ask(calls)[4:], [(7, [2, 1]), 1, (1, [0, 1]), 2, (6, [6, 0]), 2, (1, [1, 0])])

    def test_it_changes_nothing(self):
        for holds, tubes, expected in (
            (3, [[0, 1], [1, 2], []], (7, [2, 1])),
            (4, [[0, 1, 2, 3], [1, 2, 3, 0], [2, 3, 0, 1], [], []], -9),
            (1, [[0], [0], []], (3, [0, 3])),
            (1, [[0], []], (2, [2, 0])),
        ):
            before = rack_of(holds, tubes)
            as_it_was = ask(before + everything(len(tubes)))[len(before):]
            given = ask(before + [REACH, REACH] + everything(len(tubes)))[len(before):]
            self.assertEqual(given, [expected, expected] + as_it_was)
            self.assertEqual(ask(before + [REACH, FEWEST, STATE])[-1][0], 0)


if __name__ == "__main__":
    unittest.main()
