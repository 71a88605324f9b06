"""Promise 2: pour and may."""

import unittest

from asking import SORTED, ask, begins, everything, fill, last, may, pour, rack_of

FAR = 4294967295

# How many drops a tube holds, what is in the tubes, and how many go from tube 0 into tube 1.
POURINGS = (
    (4, [[0], []], 1),
    (4, [[2, 2, 2, 2], []], 4),
    (4, [[1, 2, 2], []], 2),
    (4, [[2, 1, 2], []], 1),
    (4, [[2, 2, 1], []], 1),
    (4, [[2, 1, 1, 1], [1]], 3),
    (4, [[1, 1, 1, 1], [1]], 3),
    (4, [[1, 1, 1, 1], [0, 1]], 2),
    (4, [[1, 1, 1, 1], [0, 0, 1]], 1),
    (4, [[0, 1, 1], [1, 1, 1]], 1),
    (3, [[5, 5], [5]], 2),
    (3, [[5, 5], [5, 5]], 1),
    (2, [[3, 3], [3]], 1),
    (2, [[4, 3], [3]], 1),
    (1, [[0], []], 1),
)

# Where none go.
NONE_GO = (
    (4, [[], []]),
    (4, [[], [1]]),
    (4, [[], [1, 1, 1, 1]]),
    (4, [[0], [1]]),
    (4, [[1, 0], [0, 1]]),
    (4, [[1, 1, 0], [1, 1]]),
    (4, [[1], [1, 1, 1, 1]]),
    (4, [[1, 1], [0, 0, 0, 1]]),
    (4, [[0], [1, 1, 1, 1]]),
    (1, [[0], [0]]),
    (1, [[0], [1]]),
    (2, [[0, 0], [1, 0]]),
)


class Ordinary(unittest.TestCase):
    def test_as_many_go_as_lie_together_and_as_there_is_room_for(self):
        for holds, tubes, going in POURINGS:
            rack = rack_of(holds, tubes)
            self.assertEqual(last(rack + [may(0, 1)]), going, tubes)
            self.assertEqual(last(rack + [pour(0, 1)]), going, tubes)

    def test_none_go(self):
        for holds, tubes in NONE_GO:
            rack = rack_of(holds, tubes)
            self.assertEqual(last(rack + [may(0, 1)]), 0, tubes)
            self.assertEqual(last(rack + [pour(0, 1)]), -6, tubes)

    def test_into_a_lesser_tube(self):
        rack = rack_of(3, [[1], [2], [0, 1, 1]])
        self.assertEqual(ask(rack + [may(2, 0), pour(2, 0), may(0, 2), may(2, 1)])[4:], [2, 2, 0, 0])

    def test_the_poured_rack_is_as_if_it_were_filled_so(self):
        poured_and_filled = (
            (4, [[1, 2, 2], [2], []], (0, 1), [[1], [2, 2, 2], []]),
            (4, [[1, 2, 2, 2], [3, 3, 2], []], (0, 1), [[1, 2, 2], [3, 3, 2, 2], []]),
            (4, [[1, 2], [2], []], (1, 2), [[1, 2], [], [2]]),
            (3, [[0, 0, 0], [1], []], (0, 2), [[], [1], [0, 0, 0]]),
            (2, [[0, 1], [1, 0], []], (1, 2), [[0, 1], [1], [0]]),
        )
        for holds, tubes, (tube, other), then in poured_and_filled:
            before = rack_of(holds, tubes) + [pour(tube, other)]
            given = ask(before + everything(3))[len(before):]
            filled = ask(rack_of(holds, then) + everything(3))[4:]
            # They differ in how many pourings were done alone.
            self.assertEqual((given[0][0], filled[0][0]), (1, 0))
            self.assertEqual(given[0][1:], filled[0][1:], tubes)
            self.assertEqual(given[1:], filled[1:], tubes)

    def test_one_behind_another(self):
        calls = rack_of(2, [[0, 1], [1, 0], []]) + [SORTED, pour(0, 2), pour(1, 0), pour(1, 2), SORTED]
        self.assertEqual(ask(calls)[4:], [0, 1, 1, 1, 1])

    def test_there_and_back(self):
        calls = rack_of(3, [[4, 4], []]) + [pour(0, 1), pour(0, 1), pour(1, 0), pour(1, 0), may(0, 1)]
        self.assertEqual(ask(calls)[3:], [2, -6, 2, -6, 2])


class Refused(unittest.TestCase):
    def test_both_are_one(self):
        for holds, tubes in ((4, [[1], [], [2, 2, 2, 2]]), (1, [[0], [], []])):
            for tube in range(3):
                rack = rack_of(holds, tubes)
                self.assertEqual(last(rack + [pour(tube, tube)]), -6)
                self.assertEqual(last(rack + [may(tube, tube)]), -1)

    def test_a_tube_that_there_is_not(self):
        for tubes in (2, 3, 4, 5):
            rack = [begins(4, tubes), fill(0, [1])]
            for tube in (tubes, tubes + 1, 60, FAR):
                for pair in ((tube, 0), (0, tube), (tube, tubes - 1), (tube, tube), (tube, FAR), (FAR, tube)):
                    self.assertEqual(last(rack + [pour(*pair)]), -2, pair)
                    self.assertEqual(last(rack + [may(*pair)]), -2, pair)

    def test_the_last_tube_is_there(self):
        for tubes in (2, 3, 4, 5):
            calls = [begins(4, tubes), fill(0, [1]), may(0, tubes - 1), pour(0, tubes - 1), pour(tubes - 1, 0)]
            self.assertEqual(ask(calls)[2:], [1, 1, 1])

    def test_a_tube_that_there_is_not_comes_first(self):
        rack = [begins(4, 3)]
        for pair in ((0, 3), (3, 0), (3, 3), (FAR, FAR)):
            self.assertEqual(ask(rack + [pour(*pair), may(*pair)])[1:], [-2, -2])


class NothingChanges(unittest.TestCase):
    def setUp(self):
        self.before = rack_of(3, [[0, 1, 1], [1], [2, 0, 0], []])
        self.as_it_was = ask(self.before + everything(4))[5:]

    def test_by_may(self):
        pairs = [(tube, other) for tube in (0, 1, 2, 3, 4, FAR) for other in (0, 1, 2, 3, 4, FAR)]
        for pair in pairs:
            self.assertEqual(ask(self.before + [may(*pair)] + everything(4))[6:], self.as_it_was)

    def test_by_a_refused_pour(self):
        for pair in ((0, 0), (1, 1), (3, 3), (3, 0), (0, 2), (1, 2), (2, 0), (0, 4), (4, 0), (4, 4), (FAR, 1)):
            given = ask(self.before + [pour(*pair)] + everything(4))
            self.assertLess(given[5], 0)
            self.assertEqual(given[6:], self.as_it_was)


if __name__ == "__main__":
    unittest.main()
