"""sorted, and promise 3: fewest."""

import itertools
import unittest

from asking import FEWEST, SORTED, PlainRack, ask, begins, everything, fill, last, pour, rack_of


class Sorted(unittest.TestCase):
    def assert_sorted(self, expected, holds, tubes):
        self.assertEqual(last(rack_of(holds, tubes) + [SORTED]), expected, tubes)

    def test_an_empty_rack(self):
        for tubes in (2, 3, 4, 5):
            self.assert_sorted(1, 4, [[]] * tubes)

    def test_each_colour_by_itself(self):
        self.assert_sorted(1, 2, [[0, 0], [1, 1], []])
        self.assert_sorted(1, 4, [[5, 5, 5, 5], [0, 0, 0, 0], [3, 3, 3, 3], [1, 1, 1, 1], [2, 2, 2, 2]])
        self.assert_sorted(1, 1, [[1], [0]])

    def test_tubes_that_are_not_full(self):
        self.assert_sorted(1, 4, [[0], [1, 1], [], [2, 2, 2]])
        self.assert_sorted(1, 4, [[], [4]])

    def test_a_colour_in_two_tubes(self):
        self.assert_sorted(0, 4, [[0], [0]])
        self.assert_sorted(0, 4, [[0, 0], [1], [], [0]])
        self.assert_sorted(0, 2, [[5, 5], [], [5, 5]])

    def test_two_colours_in_one_tube(self):
        self.assert_sorted(0, 2, [[0, 1], []])
        self.assert_sorted(0, 4, [[], [1, 1, 1, 0]])
        self.assert_sorted(0, 4, [[0, 1, 1, 1], []])
        self.assert_sorted(0, 4, [[2, 2], [1, 0, 1]])

    def test_both(self):
        self.assert_sorted(0, 2, [[0, 1], [1, 0]])
        self.assert_sorted(0, 2, [[0, 1], [1]])
        self.assert_sorted(0, 2, [[1], [0, 1]])

    def test_it_changes_nothing(self):
        before = rack_of(3, [[0, 1, 1], [1], [2, 0, 0], []])
        as_it_was = ask(before + everything(4))[5:]
        self.assertEqual(ask(before + [SORTED, SORTED] + everything(4))[7:], as_it_was)


class Fewest(unittest.TestCase):
    def assert_fewest(self, expected, holds, tubes):
        self.assertEqual(last(rack_of(holds, tubes) + [FEWEST]), expected, tubes)

    def test_none_where_it_is_sorted(self):
        self.assert_fewest(0, 4, [[], []])
        self.assert_fewest(0, 4, [[0], [1, 1], [], [2, 2, 2]])
        self.assert_fewest(0, 1, [[1], [0]])
        self.assert_fewest(0, 4, [[0] * 4, [1] * 4, [2] * 4, [3] * 4, [4] * 4])
        self.assert_fewest(0, 4, [[0] * 3, [1] * 3, [2] * 3, [3] * 3, []])

    def test_worked_out_by_hand(self):
        self.assert_fewest(1, 2, [[0], [0]])
        self.assert_fewest(1, 2, [[0, 1], []])
        self.assert_fewest(1, 2, [[0, 1], [1]])
        self.assert_fewest(2, 3, [[0, 1, 2], [], []])
        # One in three tubes: two pourings bring it together.
        self.assert_fewest(2, 3, [[0], [0], [0]])
        # 0 into 2, then 1 into 0, then 1 into 2: behind any two pourings a colour is in two tubes.
        self.assert_fewest(3, 2, [[0, 1], [1, 0], []])

    def test_by_a_plain_search_for_all_racks_of_a_size(self):
        colours = [list(row) for drops in (0, 1, 2) for row in itertools.product((0, 1), repeat=drops)]
        for tubes in itertools.product(colours, repeat=3):
            self.assert_fewest(PlainRack(2, tubes).fewest(), 2, tubes)

    def test_many_pourings(self):
        for expected, holds, tubes in (
            (9, 4, [[1, 4, 4, 5], [], [], [5, 3, 4, 3], [3, 2, 5, 3]]),
            (11, 4, [[0, 0, 3, 1], [], [3, 1, 3, 0], [0, 2, 1, 3], [1, 2]]),
        ):
            self.assertEqual(PlainRack(holds, tubes).fewest(), expected)
            self.assert_fewest(expected, holds, tubes)

    def test_there_is_no_plan(self):
        # Nothing can be poured.
        self.assert_fewest(-6, 1, [[0], [0]])
        self.assert_fewest(-6, 2, [[0, 1], [1, 0]])
        self.assert_fewest(-6, 2, [[0, 1], [0]])
        self.assert_fewest(-6, 4, [[0, 1, 0, 1], [1, 0, 1, 0]])
        # There are pourings, but more drops of a colour than a tube holds.
        self.assert_fewest(-6, 1, [[0], [0], []])
        self.assert_fewest(-6, 2, [[0, 0], [0], []])
        # There are pourings, but more colours than tubes.
        self.assert_fewest(-6, 2, [[0, 1], [2]])
        self.assert_fewest(-6, 3, [[0, 1], [2, 1]])

    def test_a_pouring_may_spoil_it(self):
        calls = rack_of(2, [[0, 1], [2], []]) + [FEWEST, pour(1, 2), FEWEST, pour(2, 1), pour(0, 2), FEWEST]
        self.assertEqual(ask(calls)[4:], [1, 1, 1, 1, 1, 0])
        # Once 1 lies by itself in the empty tube, 2 can't be taken off the other 1.
        calls = rack_of(3, [[0, 1], [1, 2], []]) + [FEWEST, pour(0, 2), FEWEST]
        self.assertEqual(ask(calls)[4:], [2, 1, -6])
        calls = rack_of(3, [[0, 0, 1], [1, 0], []]) + [FEWEST, pour(0, 2), FEWEST, pour(1, 0), FEWEST]
        self.assertEqual(ask(calls)[4:], [3, 1, 2, 1, 1])

    def test_as_many_racks_as_may_come_about(self):
        # 300 racks can come about from each of these; from the last two nothing leads to a sorted one.
        self.assert_fewest(2, 3, [[2], [], [2], [0, 1], [1, 1]])
        self.assert_fewest(10, 4, [[], [2, 0, 4, 1], [3, 1, 0, 1], [1, 4, 2, 4], []])
        self.assert_fewest(3, 4, [[], [], [1, 1, 3, 1], [0, 0, 0], [3]])
        self.assert_fewest(-6, 4, [[], [], [0, 0, 0], [0, 0, 0], [1, 1, 0, 0]])
        self.assert_fewest(-6, 4, [[0, 0, 0], [], [1, 1, 0, 0], [], [0, 0, 0]])

    def test_one_rack_less(self):
        # 299 racks.
        self.assert_fewest(4, 3, [[1, 2, 2], [2, 1], [0, 0, 3], [], []])
        self.assert_fewest(-6, 4, [[], [1, 1, 1, 0], [0, 1, 0, 0], [0, 0, 1, 1], [0, 0, 1, 1]])

    def test_one_rack_too_many(self):
        # 301 racks, whether there is a plan (of 4 and 10 pourings) or not.
        self.assert_fewest(-9, 4, [[2], [4, 2], [], [2, 3, 0, 0], []])
        self.assert_fewest(-9, 4, [[3, 3, 1, 2], [], [0, 2, 4, 2], [], [3, 4, 1, 4]])
        self.assert_fewest(-9, 3, [[], [4, 2, 4], [3, 2, 2], [2, 3, 1], []])

    def test_two_racks_too_many(self):
        # 302 racks, with a plan and without one.
        self.assert_fewest(-9, 4, [[3], [], [0, 1, 1, 3], [3, 3], []])
        self.assert_fewest(-9, 4, [[], [], [], [1, 1, 1], [1, 0, 1, 1]])

    def test_far_too_many_racks(self):
        self.assert_fewest(-9, 4, [[0, 1, 2, 3], [1, 2, 3, 0], [2, 3, 0, 1], [], []])
        self.assert_fewest(-9, 4, [[0, 1, 2, 3], [3, 2, 1, 0], [], [], []])

    def test_too_many_racks_though_two_pourings_sort_it(self):
        tubes = [[1, 1], [], [], [3, 0], [0, 0, 1]]
        self.assertEqual(PlainRack(3, tubes).fewest(), -9)
        self.assertEqual(ask(rack_of(3, tubes) + [pour(4, 0), pour(3, 4), SORTED])[6:], [1, 1, 1])
        self.assert_fewest(-9, 3, tubes)

    def test_it_is_told_of_the_rack_as_it_is(self):
        calls = rack_of(4, [[2], [4, 2], [], [2, 3, 0, 0], []]) + [FEWEST, fill(3, []), FEWEST, begins(2, 2), FEWEST]
        self.assertEqual(ask(calls)[6:], [-9, 3, 1, 4, 0])

    def test_it_changes_nothing(self):
        for holds, tubes, expected in (
            (3, [[0, 1, 1], [1], [2, 0, 0], []], 2),
            (4, [[0, 1, 2, 3], [1, 2, 3, 0], [2, 3, 0, 1], [], []], -9),
            (1, [[0], [0], []], -6),
            (2, [[0, 0], [1], []], 0),
        ):
            before = rack_of(holds, tubes)
            as_it_was = ask(before + everything(len(tubes)))[len(before):]
            given = ask(before + [FEWEST] + everything(len(tubes)))[len(before):]
            self.assertEqual(given, [expected] + as_it_was)


if __name__ == "__main__":
    unittest.main()
