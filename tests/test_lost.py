"""Promise 5: lost."""

import itertools
import random
import unittest

from asking import (
    FEWEST, SORTED, STATE, PlainRack, ask, begins, everything, fill, last, lost, mixed_rack, pour, rack_of,
)

FAR = 4294967295

# 302 racks can come about, none of them sorted; drops of tube 3 can go into tube 0.
TOO_MANY_AND_NO_PLAN = (4, [[], [], [], [1, 1, 1], [1, 0, 1, 1]])


class Asked(unittest.TestCase):
    def assert_lost(self, expected, holds, tubes, *pair):
        self.assertEqual(last(rack_of(holds, tubes) + [lost(*pair)]), expected, (tubes, pair))


class Ordinary(Asked):
    def test_nothing_would_lead_there_any_more(self):
        # Once 1 lies by itself in the empty tube, 2 can't be taken off the other 1.
        self.assert_lost(1, 3, [[0, 1], [1, 2], []], 0, 2)
        self.assert_lost(1, 2, [[2, 0], [0, 1], []], 0, 2)
        self.assert_lost(1, 3, [[1, 0, 0], [1, 0, 1], []], 1, 2)
        self.assert_lost(1, 3, [[0], [1, 2], [1], [3, 1]], 3, 2)
        self.assert_lost(1, 4, [[2, 0, 1, 3], [], [2, 0, 1, 3], [0, 1, 1, 2], []], 3, 1)
        self.assert_lost(1, 4, [[2, 0, 1, 3], [], [2, 0, 1, 3], [0, 1, 1, 2], []], 3, 4)

    def test_it_leads_nearer(self):
        self.assert_lost((0, [1]), 3, [[0, 1], [1, 2], []], 1, 2)
        self.assert_lost((0, [1]), 3, [[0, 1, 2], [], []], 0, 1)
        self.assert_lost((0, [2]), 2, [[0, 1], [1, 0], []], 0, 2)
        self.assert_lost((0, [2]), 2, [[0, 1], [1, 0], []], 1, 2)
        self.assert_lost((0, [9]), 4, [[], [2, 0, 4, 1], [3, 1, 0, 1], [1, 4, 2, 4], []], 3, 4)

    def test_as_many_are_needed_then(self):
        # 2 goes from a tube into an empty one.
        self.assert_lost((0, [1]), 2, [[0, 1], [2], []], 1, 2)
        self.assert_lost((0, [2]), 3, [[0, 1, 2], [1], []], 1, 2)

    def test_it_leads_away(self):
        tubes = [[0], [1, 2, 0, 2], [], [1, 2, 2, 1]]
        self.assertEqual(ask(rack_of(4, tubes) + [FEWEST, lost(3, 2)])[5:], [6, (0, [7])])
        self.assertEqual(ask(rack_of(4, tubes) + [pour(3, 2), FEWEST])[5:], [1, 7])

    def test_it_is_sorted_at_once(self):
        self.assert_lost((0, [0]), 2, [[0, 1], []], 0, 1)
        self.assert_lost((0, [0]), 2, [[0, 1], [1]], 0, 1)
        self.assert_lost((0, [0]), 2, [[0], [0]], 1, 0)
        self.assert_lost((0, [0]), 2, [[0, 1], [2], []], 0, 2)

    def test_it_is_sorted_as_it_is(self):
        self.assert_lost((0, [0]), 1, [[0], []], 0, 1)
        self.assert_lost((0, [0]), 4, [[], [3, 3, 3], [1], [], [0]], 1, 3)

    def test_from_the_first_into_the_other_one(self):
        self.assert_lost(-6, 3, [[0, 1], [1, 2], []], 2, 0)
        self.assert_lost((0, [0]), 2, [[1], [0, 1]], 1, 0)
        self.assert_lost(-6, 2, [[1], [0, 1]], 0, 1)

    def test_as_fewest_tells_behind_the_pouring(self):
        tubes = [[0, 1, 1], [], [2, 1], [0, 3, 2], []]
        asked = 0
        for pair in itertools.permutations(range(5), 2):
            told = last(rack_of(3, tubes) + [lost(*pair)])
            went, needed = ask(rack_of(3, tubes) + [pour(*pair), FEWEST])[6:]
            if went > 0:
                self.assertEqual(told, (0, [needed]), pair)
                asked += 1
            else:
                self.assertEqual(told, -6, pair)
        self.assertEqual(asked, 7)

    def test_by_a_plain_search_for_all_racks_of_a_size(self):
        colours = [list(row) for drops in (0, 1, 2) for row in itertools.product((0, 1), repeat=drops)]
        pairs = list(itertools.product(range(4), repeat=2))
        for tubes in itertools.product(colours, repeat=3):
            plain = PlainRack(2, tubes)
            given = ask(rack_of(2, tubes) + [lost(*pair) for pair in pairs])[4:]
            self.assertEqual(given, [plain.lost(*pair) for pair in pairs], tubes)

    def test_by_a_plain_search(self):
        draw = random.Random(51)
        told = []
        for _ in range(300):
            holds, tubes = mixed_rack(draw)
            pairs = list(itertools.product(range(len(tubes)), repeat=2))
            given = ask(rack_of(holds, tubes) + [lost(*pair) for pair in pairs])[len(tubes) + 1:]
            plain = PlainRack(holds, tubes)
            self.assertEqual(given, [plain.lost(*pair) for pair in pairs], tubes)
            told += [answer if isinstance(answer, int) else 0 for answer in given]
        for number in (0, 1, -4, -6, -9):
            self.assertGreater(told.count(number), 20, number)


class Refused(Asked):
    def test_a_tube_that_there_is_not(self):
        for tubes in (2, 3, 4, 5):
            for tube in (tubes, tubes + 1, 60, FAR):
                for pair in ((tube, 0), (0, tube), (tube, tubes - 1), (tube, tube), (tube, FAR), (FAR, tube)):
                    self.assertEqual(last([begins(4, tubes), fill(0, [1]), lost(*pair)]), -2, pair)

    def test_the_last_tube_is_there(self):
        for tubes in (2, 3, 4, 5):
            calls = [begins(4, tubes), fill(0, [1]), lost(0, tubes - 1), pour(0, tubes - 1), lost(tubes - 1, 0)]
            self.assertEqual(ask(calls)[2:], [(0, [0]), 1, (0, [0])])

    def test_a_tube_that_there_is_not_comes_first(self):
        for holds, tubes in (
            # Too many racks; these and no plan; no plan; nothing can be poured; it's sorted.
            (4, [[0, 1, 2, 3], [1, 2, 3, 0], [2, 3, 0, 1], [], []]),
            TOO_MANY_AND_NO_PLAN,
            (1, [[0], [0], []]),
            (1, [[0], [0]]),
            (1, [[0], []]),
        ):
            beyond = len(tubes)
            for pair in ((0, beyond), (beyond, 0), (beyond, beyond), (beyond + 1, beyond), (FAR, FAR), (1, FAR)):
                self.assert_lost(-2, holds, tubes, *pair)

    def test_too_many_racks(self):
        # 301 racks, 302, and far more.
        self.assert_lost(-9, 4, [[0, 3, 3, 2], [], [0, 3, 1, 1], [], [2, 0, 1, 3]], 2, 1)
        self.assert_lost(-9, 4, [[2], [4, 2], [], [2, 3, 0, 0], []], 3, 2)
        self.assert_lost(-9, 3, [[0, 2, 3], [], [], [0, 2, 1], [0, 2, 3]], 0, 1)
        self.assert_lost(-9, 4, [[0, 1, 2, 3], [1, 2, 3, 0], [2, 3, 0, 1], [], []], 0, 3)

    def test_as_many_racks_as_may_come_about(self):
        # 300 racks, with a plan and without one; 299.
        self.assert_lost((0, [8]), 4, [[2, 0, 1, 3], [], [2, 0, 1, 3], [0, 1, 1, 2], []], 0, 1)
        self.assert_lost(-6, 4, [[2, 0, 1, 3], [], [2, 0, 1, 3], [0, 1, 1, 2], []], 1, 0)
        self.assert_lost(-4, 4, [[], [], [0, 0, 0], [0, 0, 0], [1, 1, 0, 0]], 2, 0)
        self.assert_lost((0, [5]), 3, [[0, 0, 1], [2, 3, 1], [], [], [0, 3, 2]], 0, 2)

    def test_too_many_racks_from_the_rack_as_it_is(self):
        # 301 and 304 racks can come about; only 267 and 261 behind the pouring.
        for holds, tubes, pair, needed in (
            (3, [[], [1, 0, 1], [1, 2, 3], [], []], (1, 0), 5),
            (3, [[1, 2, 1], [2], [3], [1, 0, 3], [0, 3]], (3, 2), 5),
        ):
            given = ask(rack_of(holds, tubes) + [lost(*pair), pour(*pair), FEWEST])
            self.assertEqual(given[6:], [-9, 1, needed])

    def test_too_many_racks_ahead_of_what_can_not_be_done(self):
        tubes = [[0, 3, 3, 2], [], [0, 3, 1, 1], [], [2, 0, 1, 3]]
        for pair in ((1, 0), (0, 2), (1, 3), (0, 0), (1, 1), (4, 4)):
            self.assert_lost(-9, 4, tubes, *pair)

    def test_too_many_racks_ahead_of_no_plan(self):
        for pair in ((3, 0), (3, 4), (4, 2), (0, 3), (0, 1), (2, 2), (4, 4)):
            self.assert_lost(-9, *TOO_MANY_AND_NO_PLAN, *pair)

    def test_it_can_not_be_done(self):
        # From an empty tube; onto another colour; onto its like in a full tube; both are one.
        tubes = [[0, 1, 1], [1, 2], [], [0, 0, 2]]
        self.assertGreater(last(rack_of(3, tubes) + [FEWEST]), 0)
        for pair in ((2, 0), (2, 1), (0, 1), (1, 0), (0, 3), (3, 0), (1, 3), (0, 0), (1, 1), (2, 2), (3, 3)):
            self.assert_lost(-6, 3, tubes, *pair)

    def test_it_can_not_be_done_where_it_is_sorted(self):
        self.assertEqual(ask([lost(0, 1), lost(1, 0), lost(0, 0), lost(1, 1)]), [-6] * 4)
        for pair in ((0, 0), (1, 1), (1, 0), (0, 2), (2, 0)):
            self.assert_lost(-6, 2, [[0], [], [1, 1]], *pair)

    def test_it_can_not_be_done_ahead_of_no_plan(self):
        for pair in ((0, 1), (1, 0), (2, 0), (2, 1), (0, 0), (1, 1), (2, 2)):
            self.assert_lost(-6, 1, [[0], [0], []], *pair)
        for pair in ((0, 1), (1, 0), (0, 0), (1, 1)):
            self.assert_lost(-6, 1, [[0], [0]], *pair)

    def test_nothing_leads_to_a_sorted_one_as_it_is(self):
        self.assert_lost(-4, 1, [[0], [0], []], 0, 2)
        self.assert_lost(-4, 1, [[0], [0], []], 1, 2)
        self.assert_lost(-4, 2, [[0, 0], [0], []], 0, 1)
        self.assert_lost(-4, 3, [[0, 1], [2, 1]], 0, 1)
        self.assert_lost(-4, 3, [[0, 1], [2, 1]], 1, 0)
        self.assert_lost(-4, 4, [[], [1, 1, 1, 0], [0, 1, 0, 0], [0, 0, 1, 1], [0, 0, 1, 1]], 1, 0)


class NothingIsDone(Asked):
    def assert_nothing_is_done(self, expected, before, tubes, pair):
        as_it_was = ask(before + everything(tubes))[len(before):]
        given = ask(before + [lost(*pair), lost(*pair)] + everything(tubes))[len(before):]
        self.assertEqual(given, [expected, expected] + as_it_was)

    def test_by_one_that_is_answered(self):
        rack = rack_of(3, [[0, 1], [1, 2], []])
        self.assert_nothing_is_done(1, rack, 3, (0, 2))
        self.assert_nothing_is_done((0, [1]), rack, 3, (1, 2))
        self.assert_nothing_is_done((0, [0]), rack + [pour(1, 2)], 3, (0, 1))

    def test_by_one_that_is_refused(self):
        rack = rack_of(3, [[0, 1], [1, 2], []])
        for expected, pair in ((-2, (3, 0)), (-2, (0, FAR)), (-6, (0, 1)), (-6, (2, 2))):
            self.assert_nothing_is_done(expected, rack, 3, pair)
        self.assert_nothing_is_done(-4, rack_of(1, [[0], [0], []]), 3, (0, 2))
        self.assert_nothing_is_done(-9, rack_of(*TOO_MANY_AND_NO_PLAN), 5, (3, 0))

    def test_the_pouring_can_be_done_behind_it(self):
        calls = rack_of(3, [[0, 1], [1, 2], []]) + [lost(1, 2), pour(1, 2), lost(0, 1), pour(0, 1), SORTED, STATE]
        self.assertEqual(ask(calls)[4:], [(0, [1]), 1, (0, [0]), 1, 1, (2, [3, 3], [1, 0, 2, 1, 1, 1, 2])])


if __name__ == "__main__":
    unittest.main()
