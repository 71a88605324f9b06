"""tube and state."""

import unittest

from asking import (
    FEWEST, PLAN, REACH, SORTED, STATE, ask, begins, fill, last, lost, may, pour, rack_of, tube_of,
)

FAR = 4294967295


class Tube(unittest.TestCase):
    def test_an_empty_one(self):
        self.assertEqual(ask([tube_of(0), tube_of(1)]), [(0, []), (0, [])])
        for tubes in (2, 3, 4, 5):
            calls = [begins(4, tubes)] + [tube_of(tube) for tube in range(tubes)]
            self.assertEqual(ask(calls)[1:], [(0, [])] * tubes)

    def test_a_full_one(self):
        for holds in (1, 2, 3, 4):
            colours = [5, 0, 3, 3][:holds]
            self.assertEqual(last([begins(holds, 2), fill(1, colours), tube_of(1)]), (holds, colours))

    def test_the_colours_from_the_bottom_up(self):
        calls = rack_of(4, [[0, 1, 2, 3], [4], [], [5, 4, 4], [1, 0]]) + [tube_of(tube) for tube in range(5)]
        self.assertEqual(ask(calls)[6:], [(4, [0, 1, 2, 3]), (1, [4]), (0, []), (3, [5, 4, 4]), (2, [1, 0])])

    def test_behind_a_pouring(self):
        calls = rack_of(3, [[0, 1, 1], [1, 1], []]) + [pour(0, 1), tube_of(0), tube_of(1), pour(1, 2)]
        calls += [tube_of(1), tube_of(2), pour(0, 2), tube_of(0)]
        self.assertEqual(
            ask(calls)[4:],
            [1, (2, [0, 1]), (3, [1, 1, 1]), 3, (0, []), (3, [1, 1, 1]), -6, (2, [0, 1])],
        )

    def test_behind_fill(self):
        calls = [begins(2, 2), fill(0, [3, 4]), fill(0, [2]), tube_of(0), fill(0, [6]), tube_of(0), fill(0, [])]
        self.assertEqual(ask(calls + [tube_of(0)])[3::2], [(1, [2]), (1, [2]), (0, [])])

    def test_one_that_there_is_not(self):
        self.assertEqual(ask([tube_of(2), tube_of(FAR)]), [-2, -2])
        for tubes in (2, 3, 4, 5):
            for tube in (tubes, tubes + 1, 60, FAR - 1, FAR):
                self.assertEqual(last(rack_of(2, [[1, 2]] * tubes) + [tube_of(tube)]), -2)
            self.assertEqual(last(rack_of(2, [[1, 2]] * tubes) + [tube_of(tubes - 1)]), (2, [1, 2]))

    def test_it_changes_nothing(self):
        before = rack_of(3, [[0, 1, 1], [1], []])
        calls = before + [tube_of(0), tube_of(1), tube_of(2), tube_of(3), STATE]
        self.assertEqual(last(calls), last(before + [STATE]))


class State(unittest.TestCase):
    def test_at_the_beginning(self):
        self.assertEqual(ask([STATE]), [(0, [1, 2], [0, 0])])

    def test_how_many_drops_a_tube_holds_and_how_many_tubes(self):
        for holds in (1, 2, 3, 4):
            for tubes in (2, 3, 4, 5):
                self.assertEqual(last([begins(holds, tubes), STATE]), (0, [holds, tubes], [0] * tubes))

    def test_the_drops_of_each_tube_from_the_bottom_up(self):
        calls = rack_of(4, [[0, 1, 2, 3], [4], [], [5, 4, 4], [1, 0]]) + [STATE]
        self.assertEqual(last(calls), (0, [4, 5], [4, 0, 1, 2, 3, 1, 4, 0, 3, 5, 4, 4, 2, 1, 0]))
        self.assertEqual(last(rack_of(1, [[], [0]]) + [STATE]), (0, [1, 2], [0, 1, 0]))

    def test_all_tubes_full(self):
        contents = [4, 5, 4, 3, 2] * 5
        self.assertEqual(last(rack_of(4, [[5, 4, 3, 2]] * 5) + [STATE]), (0, [4, 5], contents))

    def test_how_many_pourings_were_done(self):
        calls = rack_of(2, [[0, 1], [1, 0], []]) + [STATE, pour(0, 2), STATE, pour(1, 0), STATE, pour(1, 2), STATE]
        self.assertEqual(
            ask(calls)[4::2],
            [
                (0, [2, 3], [2, 0, 1, 2, 1, 0, 0]), (1, [2, 3], [1, 0, 2, 1, 0, 1, 1]),
                (2, [2, 3], [2, 0, 0, 1, 1, 1, 1]), (3, [2, 3], [2, 0, 0, 0, 2, 1, 1]),
            ],
        )

    def test_one_pouring_is_one_however_many_drops_go(self):
        calls = rack_of(4, [[2, 2, 2, 2], []]) + [pour(0, 1), pour(1, 0), pour(0, 1), STATE]
        self.assertEqual(ask(calls)[3:], [4, 4, 4, (3, [4, 2], [0, 4, 2, 2, 2, 2])])

    def test_a_refused_pour_counts_as_none(self):
        calls = rack_of(2, [[0, 1], [0], []]) + [pour(0, 1), pour(2, 0), pour(0, 0), pour(0, 3), pour(FAR, 1), STATE]
        self.assertEqual(ask(calls)[4:], [-6, -6, -6, -2, -2, (0, [2, 3], [2, 0, 1, 1, 0, 0])])
        self.assertEqual(last(calls[:-1] + [pour(0, 2), pour(0, 3), STATE])[0], 1)

    def test_what_only_asks_counts_as_none(self):
        before = rack_of(3, [[0, 1], [1, 2], []])
        for call in (
            may(1, 2), may(0, 0), may(0, 3), SORTED, FEWEST, PLAN, REACH, lost(1, 2), lost(0, 2), lost(0, 1),
            lost(3, 0), tube_of(0), tube_of(3), STATE,
        ):
            self.assertEqual(last(before + [call, STATE])[0], 0, call)
            self.assertEqual(last(before + [pour(1, 2), call, STATE])[0], 1, call)

    def test_fill_leaves_the_number_as_it_is(self):
        calls = rack_of(2, [[0, 1], [], []]) + [pour(0, 1), pour(0, 2), fill(0, [3]), fill(1, [6]), fill(3, []), STATE]
        self.assertEqual(ask(calls)[4:], [1, 1, 3, -1, -2, (2, [2, 3], [1, 3, 1, 1, 1, 0])])

    def test_begins_begins_it_anew(self):
        calls = rack_of(2, [[0, 1], [], []]) + [pour(0, 1), STATE, begins(2, 3), STATE, fill(2, [4]), pour(2, 1), STATE]
        self.assertEqual(ask(calls)[5], (1, [2, 3], [1, 0, 1, 1, 0]))
        self.assertEqual(ask(calls)[7], (0, [2, 3], [0, 0, 0]))
        self.assertEqual(ask(calls)[-1], (1, [2, 3], [0, 1, 4, 0]))

    def test_a_refused_begins_does_not(self):
        for holds, tubes in ((0, 3), (5, 3), (2, 1), (2, 6), (FAR, FAR)):
            calls = rack_of(2, [[0, 1], [], []]) + [pour(0, 1), begins(holds, tubes), STATE]
            self.assertEqual(ask(calls)[5:], [-1, (1, [2, 3], [1, 0, 1, 1, 0])])

    def test_it_changes_nothing(self):
        calls = rack_of(2, [[0, 1], [1], []]) + [STATE] * 40
        self.assertEqual(ask(calls)[4:], [(0, [2, 3], [2, 0, 1, 1, 1, 0])] * 40)

    def test_nothing_is_spilt(self):
        calls = rack_of(3, [[0, 1, 1], [1, 2], [2, 0, 0], []])
        drops = [0, 0, 0, 1, 1, 1, 2, 2]
        for tube in range(4):
            for other in range(4):
                calls = calls + [pour(tube, other)]
                contents = last(calls + [STATE])[2]
                colours = []
                for _ in range(4):
                    colours += contents[1:contents[0] + 1]
                    contents = contents[contents[0] + 1:]
                self.assertEqual(sorted(colours), drops)


if __name__ == "__main__":
    unittest.main()
