"""Promise 3: plan."""

import itertools
import random
import unittest

from asking import (
    FEWEST, PLAN, SORTED, STATE, PlainRack, ask, begins, everything, fill, last, mixed_rack, pairs_of, pour, rack_of,
)


def small_racks():
    """All racks of three tubes that hold two drops, of two colours."""
    colours = [row for drops in (0, 1, 2) for row in itertools.product((0, 1), repeat=drops)]
    return itertools.product(colours, repeat=3)


def sorts(holds, tubes, pairs):
    """Whether these pourings can be done, one behind another, and it's sorted behind them."""
    plain = PlainRack(holds, tubes)
    return all(plain.moved(tube, other) for tube, other in pairs) and plain.sorted() == 1


def least_of_the_shortest(holds, tubes):
    """The least of all lists of pourings that sort a rack, of the shortest ones; for racks that few ones sort."""
    pairs = list(itertools.permutations(range(len(tubes)), 2))
    for pourings in range(4):
        for told in itertools.product(pairs, repeat=pourings):
            if sorts(holds, tubes, told):
                return [number for pair in told for number in pair]
    return None


class Plan(unittest.TestCase):
    def assert_plan(self, expected, holds, tubes):
        answer = expected if isinstance(expected, int) else (len(expected), [n for pair in expected for n in pair])
        self.assertEqual(last(rack_of(holds, tubes) + [PLAN]), answer, tubes)

    def assert_leads_there(self, holds, tubes):
        """Do the told pourings and see to it that they sort the rack."""
        rack = rack_of(holds, tubes)
        fewest, (pourings, numbers) = ask(rack + [FEWEST, PLAN])[len(rack):]
        self.assertEqual(fewest, pourings)
        self.assertEqual(len(numbers), 2 * pourings)
        calls = [call for pair in pairs_of(numbers) for call in (SORTED, pour(*pair))]
        given = ask(rack + calls + [SORTED, PLAN])[len(rack):]
        self.assertEqual(given[0:-2:2], [0] * pourings)
        self.assertTrue(all(went > 0 for went in given[1:-2:2]), given)
        self.assertEqual(given[-2:], [1, (0, [])])

    def test_an_empty_list_where_it_is_sorted(self):
        self.assert_plan([], 1, [[], []])
        self.assert_plan([], 4, [[0], [1, 1], [], [2, 2, 2]])
        self.assert_plan([], 1, [[1], [0]])
        self.assert_plan([], 4, [[0] * 4, [1] * 4, [2] * 4, [3] * 4, [4] * 4])
        self.assertEqual(ask([PLAN]), [(0, [])])

    def test_one_pouring(self):
        self.assert_plan([(0, 1)], 2, [[0, 1], []])
        self.assert_plan([(1, 0)], 2, [[], [0, 1]])
        self.assert_plan([(0, 1)], 2, [[0, 1], [1]])
        self.assert_plan([(2, 3)], 3, [[3, 3, 3], [4], [0, 1], [], [5]])
        self.assert_plan([(2, 0)], 4, [[1, 1, 1], [2, 2], [0, 0, 1]])

    def test_several_pourings(self):
        # 2 out of the way into the empty tube, then 1 onto its like.
        self.assert_plan([(1, 2), (0, 1)], 3, [[0, 1], [1, 2], []])
        self.assert_plan([(0, 1), (0, 2)], 3, [[0, 1, 2], [], []])
        # 1 into the empty tube, 0 onto the 0 that's left, then both 1 together.
        self.assert_plan([(0, 2), (1, 0), (1, 2)], 2, [[0, 1], [1, 0], []])
        # 2 into the empty tube, then 1 onto its like.
        self.assert_plan([(0, 2), (0, 1)], 3, [[0, 1, 2], [1], []])

    def test_of_several_the_one_from_the_lesser_tube(self):
        self.assert_plan([(0, 1)], 2, [[0], [0]])
        self.assert_plan([(1, 2)], 4, [[3], [0, 0], [0], []])
        # From the lesser tube, though the other one is into the lesser.
        self.assert_plan([(0, 2)], 2, [[1], [], [1]])
        self.assert_plan([(1, 4)], 3, [[3, 3, 3], [0], [2], [], [0]])

    def test_of_several_from_the_same_tube_the_one_into_the_lesser(self):
        self.assert_plan([(0, 1)], 2, [[0, 1], [], []])
        self.assert_plan([(2, 0)], 2, [[], [], [0, 1]])
        self.assert_plan([(1, 0)], 2, [[], [0, 1], []])
        self.assert_plan([(4, 1)], 4, [[5], [], [], [], [0, 0, 1]])

    def test_of_several_where_a_later_pouring_differs(self):
        # Behind 0 into 1 there's 2 into 3 and 3 into 2.
        self.assert_plan([(0, 1), (2, 3)], 2, [[0], [0], [1], [1]])
        # Behind 0 into 1 tube 0 is empty, as 3 and 4 are.
        self.assert_plan([(0, 1), (2, 0)], 2, [[0], [0], [1, 2], [], []])
        self.assert_plan([(0, 1), (0, 2), (0, 3)], 4, [[0, 1, 2, 3], [], [], [], []])
        self.assert_plan([(4, 0), (4, 1), (4, 2)], 4, [[], [], [], [], [0, 1, 2, 3]])
        # Behind 0 into 1 there's 2 into 0 and 3 into 0, or 2 into 3 and 3 into 0, or 3 into 0 and 2 into 0.
        self.assert_plan([(0, 1), (2, 0), (3, 0)], 3, [[4], [4], [1, 2], [3, 2]])

    def test_a_longer_way_from_the_lesser_tube_is_none(self):
        # 0 into 2 is the least pouring that can be done, but spoils it.
        self.assert_plan([(1, 2), (0, 1)], 3, [[0, 1], [1, 2], []])
        # 0 into 1 can be done, but is of no use.
        self.assert_plan([(3, 1)], 2, [[0], [], [1, 1], [2, 3], []])

    def test_as_the_least_of_all_lists_of_pourings(self):
        for tubes in small_racks():
            least = least_of_the_shortest(2, tubes)
            told = last(rack_of(2, tubes) + [PLAN])
            if least is not None:
                self.assertEqual(told, (len(least) // 2, least), tubes)
            else:
                self.assertEqual(told, PlainRack(2, tubes).plan(), tubes)

    def test_as_a_plain_search_picks_it(self):
        draw = random.Random(31)
        with_several = 0
        for _ in range(300):
            holds, tubes = mixed_rack(draw)
            expected = PlainRack(holds, tubes).plan()
            self.assertEqual(last(rack_of(holds, tubes) + [PLAN]), expected, tubes)
            with_several += isinstance(expected, tuple) and expected[0] > 1
        self.assertGreater(with_several, 60)

    def test_many_pourings(self):
        for pourings, holds, tubes in (
            (9, 4, [[1, 4, 4, 5], [], [], [5, 3, 4, 3], [3, 2, 5, 3]]),
            (11, 4, [[0, 0, 3, 1], [], [3, 1, 3, 0], [0, 2, 1, 3], [1, 2]]),
            (10, 4, [[], [2, 0, 4, 1], [3, 1, 0, 1], [1, 4, 2, 4], []]),
            (9, 4, [[2, 0, 1, 3], [], [2, 0, 1, 3], [0, 1, 1, 2], []]),
        ):
            told = last(rack_of(holds, tubes) + [PLAN])
            self.assertEqual(told, PlainRack(holds, tubes).plan())
            self.assertEqual(told[0], pourings)
            self.assert_leads_there(holds, tubes)

    def test_the_told_pourings_lead_there_and_none_fewer_do(self):
        for tubes in small_racks():
            if PlainRack(2, tubes).fewest() >= 0:
                self.assert_leads_there(2, tubes)

    def test_there_is_no_plan(self):
        for holds, tubes in (
            (1, [[0], [0]]),
            (2, [[0, 1], [1, 0]]),
            (4, [[0, 1, 0, 1], [1, 0, 1, 0]]),
            (1, [[0], [0], []]),
            (2, [[0, 0], [0], []]),
            (2, [[0, 1], [2]]),
            (3, [[0], [1, 2], [1]]),
        ):
            self.assert_plan(-6, holds, tubes)

    def test_as_many_racks_as_may_come_about(self):
        # 299 and 300 racks, with a plan and without one.
        self.assert_plan([(0, 3), (1, 0), (1, 3), (2, 1)], 3, [[1, 2, 2], [2, 1], [0, 0, 3], [], []])
        self.assert_plan(-6, 4, [[], [1, 1, 1, 0], [0, 1, 0, 0], [0, 0, 1, 1], [0, 0, 1, 1]])
        self.assert_plan([(0, 2), (3, 4)], 3, [[2], [], [2], [0, 1], [1, 1]])
        self.assert_plan(-6, 4, [[], [], [0, 0, 0], [0, 0, 0], [1, 1, 0, 0]])

    def test_too_many_racks(self):
        # 301 racks, with a plan and without one; 302, with a plan and without one; far more.
        self.assert_plan(-9, 4, [[2], [4, 2], [], [2, 3, 0, 0], []])
        self.assert_plan(-9, 3, [[], [4, 2, 4], [3, 2, 2], [2, 3, 1], []])
        self.assert_plan(-9, 4, [[3], [], [0, 1, 1, 3], [3, 3], []])
        self.assert_plan(-9, 4, [[], [], [], [1, 1, 1], [1, 0, 1, 1]])
        self.assert_plan(-9, 4, [[0, 1, 2, 3], [1, 2, 3, 0], [2, 3, 0, 1], [], []])

    def test_it_is_told_of_the_rack_as_it_is(self):
        calls = rack_of(3, [[0, 1], [1, 2], []]) + [PLAN, pour(1, 2), PLAN, pour(0, 1), PLAN, fill(0, [3, 2]), PLAN]
        self.assertEqual(ask(calls)[4::2], [(2, [1, 2, 0, 1]), (1, [0, 1]), (0, []), (1, [0, 2])])
        calls = rack_of(3, [[0, 1], [1, 2], []]) + [pour(0, 2), PLAN, begins(3, 2), PLAN]
        self.assertEqual(ask(calls)[4:], [1, -6, 6, (0, [])])

    def test_it_changes_nothing(self):
        for holds, tubes, expected in (
            (3, [[0, 1], [1, 2], []], (2, [1, 2, 0, 1])),
            (4, [[0, 1, 2, 3], [1, 2, 3, 0], [2, 3, 0, 1], [], []], -9),
            (1, [[0], [0], []], -6),
            (2, [[0, 0], [1], []], (0, [])),
        ):
            before = rack_of(holds, tubes)
            as_it_was = ask(before + everything(len(tubes)))[len(before):]
            given = ask(before + [PLAN, PLAN] + everything(len(tubes)))[len(before):]
            self.assertEqual(given, [expected, expected] + as_it_was)
            self.assertEqual(ask(before + [PLAN, STATE])[-1][0], 0)


if __name__ == "__main__":
    unittest.main()
