"""Promise 1: begins and fill."""

import unittest

from asking import FEWEST, SORTED, ask, begins, everything, fill, last, may, pour, rack_of

FAR = 4294967295


class Begins(unittest.TestCase):
    def test_every_size_that_there_is(self):
        for holds in (1, 2, 3, 4):
            for tubes in (2, 3, 4, 5):
                self.assertEqual(ask([begins(holds, tubes)]), [holds * tubes])

    def test_a_tube_holds_1_to_4(self):
        for holds in (0, 5, 6, 60, 256, FAR - 1, FAR):
            for tubes in (2, 5):
                self.assertEqual(ask([begins(holds, tubes)]), [-1], holds)

    def test_there_are_2_to_5_tubes(self):
        for tubes in (0, 1, 6, 7, 60, 256, FAR - 1, FAR):
            for holds in (1, 4):
                self.assertEqual(ask([begins(holds, tubes)]), [-1], tubes)

    def test_both_are_wrong(self):
        for holds, tubes in ((0, 0), (5, 1), (0, 6), (FAR, FAR), (5, 6)):
            self.assertEqual(ask([begins(holds, tubes)]), [-1])

    def test_there_are_as_many_tubes_as_told(self):
        for tubes in (2, 3, 4, 5):
            calls = [begins(1, tubes)] + [fill(tube, []) for tube in range(6)]
            self.assertEqual(ask(calls)[1:], [0] * tubes + [-2] * (6 - tubes))

    def test_a_tube_holds_as_many_as_told(self):
        for holds in (1, 2, 3, 4):
            calls = [begins(holds, 2)] + [fill(0, [3] * drops) for drops in range(6)]
            self.assertEqual(ask(calls)[1:], list(range(holds + 1)) + [-1] * (5 - holds))

    def test_all_is_new_and_empty_then(self):
        for holds, tubes in ((1, 2), (4, 5), (2, 3), (3, 4)):
            new = ask([begins(holds, tubes)] + everything(tubes))
            before = rack_of(4, [[0, 1], [1, 0], [2], [], [3, 3, 3]]) + [pour(0, 3)]
            again = ask(before + [begins(holds, tubes)] + everything(tubes))
            self.assertEqual(again[len(before):], new)
            self.assertEqual(new[-tubes - 2:], [1, 0] + [0] * tubes)

    def test_the_same_size_again_is_new_too(self):
        calls = rack_of(2, [[0, 1], [1]]) + [begins(2, 2), may(0, 1), may(1, 0), SORTED, fill(0, [])]
        self.assertEqual(ask(calls)[3:], [4, 0, 0, 1, 0])

    def test_a_refused_one_leaves_all_as_it_was(self):
        before = rack_of(3, [[0, 1, 1], [1], [2, 0], []]) + [pour(0, 3)]
        as_it_was = ask(before + everything(4))[len(before):]
        for holds, tubes in ((0, 4), (5, 4), (3, 1), (3, 6), (0, 0), (FAR, FAR), (4, FAR), (FAR, 5)):
            given = ask(before + [begins(holds, tubes)] + everything(4))
            self.assertEqual(given[len(before):], [-1] + as_it_was)

    def test_a_refused_one_leaves_what_a_tube_holds(self):
        calls = [begins(2, 3), begins(5, 5), fill(0, [1, 1]), fill(0, [1, 1, 1]), fill(2, []), fill(3, [])]
        self.assertEqual(ask(calls), [6, -1, 2, -1, 2, -2])


class Fill(unittest.TestCase):
    def test_it_tells_the_drops_of_all_tubes(self):
        calls = [begins(4, 5), fill(0, [0, 1, 2, 3]), fill(4, [5]), fill(2, [4, 4]), fill(3, [0, 0, 0])]
        self.assertEqual(ask(calls), [20, 4, 5, 7, 10])

    def test_all_tubes_full(self):
        self.assertEqual(ask(rack_of(4, [[0, 1, 2, 3]] * 5)), [20, 4, 8, 12, 16, 20])

    def test_it_is_there_instead_of_what_was(self):
        calls = [begins(4, 2), fill(0, [0, 1, 2, 3]), fill(1, [5]), fill(0, [4]), may(0, 1), fill(0, [2, 5]), may(0, 1)]
        self.assertEqual(ask(calls), [8, 4, 5, 2, 0, 3, 1])

    def test_the_colours_lie_from_the_bottom_up(self):
        calls = [begins(3, 3), fill(0, [0, 1, 1]), fill(1, [1]), fill(2, [0]), may(0, 1), may(0, 2)]
        self.assertEqual(ask(calls)[4:], [2, 0])

    def test_an_empty_list_empties_the_tube(self):
        calls = [begins(2, 2), fill(0, [1, 2]), fill(1, [2, 1]), fill(0, []), may(0, 1), may(1, 0), fill(1, []), SORTED]
        self.assertEqual(ask(calls), [4, 2, 4, 2, 0, 1, 0, 1])

    def test_an_empty_list_into_an_empty_tube(self):
        self.assertEqual(ask([begins(2, 2), fill(0, []), fill(1, [])]), [4, 0, 0])

    def test_colours_are_0_to_5(self):
        for colour in (0, 1, 2, 3, 4, 5):
            self.assertEqual(last([begins(1, 2), fill(0, [colour])]), 1)
        for colour in (6, 7, 60, 255, 256, FAR - 1, FAR):
            self.assertEqual(last([begins(1, 2), fill(0, [colour])]), -1)

    def test_a_number_that_is_no_colour_wherever_it_lies(self):
        for colours in ([6, 0, 0, 0], [0, 6, 0, 0], [5, 5, 6, 5], [0, 1, 2, 6], [FAR, FAR]):
            self.assertEqual(last([begins(4, 2), fill(1, colours)]), -1)

    def test_a_list_that_is_longer_than_the_tube_holds(self):
        for holds in (1, 2, 3, 4):
            for drops in (holds + 1, holds + 2, 59, 60):
                self.assertEqual(last([begins(holds, 2), fill(0, [1] * drops)]), -1)

    def test_a_list_that_is_too_long_and_has_what_is_no_colour(self):
        self.assertEqual(last([begins(4, 2), fill(0, [FAR] * 60)]), -1)

    def test_the_call_behind_a_long_list_is_found(self):
        calls = [begins(4, 3), fill(0, list(range(60))), fill(2, [1, 1]), may(2, 0)]
        self.assertEqual(ask(calls), [12, -1, 2, 2])

    def test_a_refused_one_leaves_all_as_it_was(self):
        before = rack_of(3, [[0, 1, 1], [1], [2, 0], []])
        as_it_was = ask(before + everything(4))[len(before):]
        for tube in (0, 1, 3):
            for colours in ([0] * 4, [6], [1, 1, 6], [2] * 60):
                given = ask(before + [fill(tube, colours)] + everything(4))
                self.assertEqual(given[len(before):], [-1] + as_it_was)
        given = ask(before + [fill(4, [0])] + everything(4))
        self.assertEqual(given[len(before):], [-2] + as_it_was)

    def test_a_tube_that_there_is_not(self):
        for tubes in (2, 3, 4, 5):
            for tube in (tubes, tubes + 1, 60, FAR):
                self.assertEqual(last([begins(2, tubes), fill(tube, [1])]), -2)
                self.assertEqual(last([begins(2, tubes), fill(tube, [])]), -2)

    def test_a_tube_that_there_is_not_comes_first(self):
        for colours in ([1] * 3, [6], [FAR] * 60):
            self.assertEqual(last([begins(2, 3), fill(3, colours)]), -2)
            self.assertEqual(last([begins(2, 3), fill(FAR, colours)]), -2)

    def test_what_is_filled_in_is_looked_ahead_from(self):
        calls = [begins(2, 2), fill(0, [0]), fill(1, [0]), FEWEST, fill(1, [1]), FEWEST]
        self.assertEqual(ask(calls), [4, 1, 2, 1, 2, 0])


if __name__ == "__main__":
    unittest.main()
