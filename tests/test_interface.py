"""The interface: how calls are handed in and answered."""

import random
import time
import unittest

from asking import FEWEST, SORTED, PlainRack, ask, begins, fill, may, pour, rack_of
from tubedrops.rack import answers

FAR = 4294967295


class Beginning(unittest.TestCase):
    def test_two_empty_tubes_that_hold_one_drop(self):
        calls = [fill(0, []), fill(1, []), fill(2, []), fill(0, [1, 1]), fill(1, [5]), may(1, 0), fill(0, [4])]
        self.assertEqual(ask(calls), [0, 0, -2, -1, 1, 1, 2])

    def test_each_call_as_the_first(self):
        for call, expected in (
            (begins(3, 4), 12), (begins(0, 2), -1), (fill(1, [0]), 1), (fill(0, [0, 0]), -1), (fill(2, []), -2),
            (pour(0, 1), -6), (pour(1, 1), -6), (pour(0, 2), -2), (may(0, 1), 0), (may(1, 1), -1), (may(2, 2), -2),
            (SORTED, 1), (FEWEST, 0),
        ):
            self.assertEqual(ask([call]), [expected], call)

    def test_pourings_without_any_begins(self):
        calls = [fill(0, [3]), pour(0, 1), pour(0, 1), pour(1, 0), SORTED, FEWEST, fill(1, [3]), SORTED, FEWEST]
        self.assertEqual(ask(calls), [1, 1, -6, 1, 1, 0, 2, 0, -6])


class Layout(unittest.TestCase):
    def test_each_answer_lies_behind_how_many_numbers_it_has(self):
        calls = [0, 2, 3, 1, 0, 2, 0, 1, 1, 1, 2, 1, 0, 4, 5, 3, 0, 2, 2, 0, 2, 2, 0, 0, 3, 1, 1, 1, 9, 0, 5]
        self.assertEqual(
            answers(calls),
            [1, 6, 1, 2, 1, 4, 1, 0, 1, 3, 1, 1, 1, 1, 1, -6, 1, -1, 1, -2, 1, 2],
        )

    def test_a_row_lies_behind_how_many_numbers_it_has(self):
        self.assertEqual(answers([1, 0, 0, 4]), [1, 0, 1, 1])
        self.assertEqual(answers([1, 0, 1, 4, 4]), [1, 1, 1, 1])
        self.assertEqual(answers([1, 0, 60] + [0] * 60 + [5]), [1, -1, 1, 0])

    def test_what_is_handed_in_is_as_it_was(self):
        calls = [0, 4, 3, 1, 0, 3, 0, 1, 1, 1, 1, 2, 1, 0, 2, 0, 2, 2, 2, 2, 3, 0, 1, 4, 5, 1, 0, 5, 0, 0, 0, 0, 0]
        copy = list(calls)
        given = answers(calls)
        self.assertEqual(calls, copy)
        self.assertEqual(answers(calls), given)
        given.append(7)
        self.assertEqual(calls, copy)

    def test_a_second_call_knows_nothing_of_the_first(self):
        first = [fill(1, []), may(0, 1), SORTED, FEWEST, fill(0, [1, 1])]
        new = ask(first)
        self.assertEqual(new, [0, 0, 1, 0, -1])
        ask(rack_of(4, [[0, 1], [1, 0], [2], [], [3, 3, 3]]) + [pour(0, 3), FEWEST])
        self.assertEqual(ask(first), new)
        ask([fill(0, [1]), fill(1, [1])])
        self.assertEqual(ask(first), new)


def any_call(draw):
    """One call, of those that are taken and of those that are refused."""
    near = (0, 0, 1, 1, 2, 3, 4, 5, FAR)
    kind = draw.choice((0, 1, 1, 1, 1, 2, 2, 2, 2, 2, 3, 3, 4, 5, 5))
    if kind == 0:
        return begins(draw.choice((0, 1, 2, 2, 3, 4, 5)), draw.choice((1, 2, 3, 3, 4, 5, 6)))
    if kind == 1:
        drops = draw.choice((0, 1, 2, 2, 3, 4, 5))
        return fill(draw.choice(near), [draw.choice((0, 0, 1, 1, 2, 5, 6)[:draw.choice((4, 7))]) for _ in range(drops)])
    if kind in (2, 3):
        return [kind, draw.choice(near), draw.choice(near)]
    return [kind]


class ManyCalls(unittest.TestCase):
    def test_lists_of_80_calls_as_the_plain_model_answers(self):
        draw = random.Random(20)
        for _ in range(120):
            calls = [begins(draw.choice((1, 2, 3, 4)), draw.choice((2, 3, 4, 5)))]
            calls += [any_call(draw) for _ in range(79)]
            plain = PlainRack()
            self.assertEqual(ask(calls), [plain.answer(call) for call in calls], calls)

    def test_lists_of_80_calls_without_another_begins(self):
        draw = random.Random(21)
        for _ in range(60):
            holds, tubes = draw.choice((2, 3, 4)), draw.choice((3, 4, 5))
            rack = [[draw.randrange(3) for _ in range(draw.choice((0, 1, holds)))] for _ in range(tubes)]
            calls = rack_of(holds, rack)
            while len(calls) < 80:
                calls.append(draw.choice((pour, pour, may))(draw.randrange(tubes), draw.randrange(tubes)))
                calls.append(draw.choice((SORTED, FEWEST)))
            calls = calls[:80]
            plain = PlainRack()
            self.assertEqual(ask(calls), [plain.answer(call) for call in calls], calls)

    def test_they_are_answered_in_reasonable_time(self):
        for tubes, expected in (
            ([[], [2, 0, 4, 1], [3, 1, 0, 1], [1, 4, 2, 4], []], 10),
            ([[0, 1, 2, 3], [1, 2, 3, 0], [2, 3, 0, 1], [], []], -9),
        ):
            begun = time.monotonic()
            given = ask(rack_of(4, tubes) + [FEWEST] * 74)
            self.assertLess(time.monotonic() - begun, 20)
            self.assertEqual(given[6:], [expected] * 74)

    def test_80_calls_of_the_longest(self):
        calls = [fill(FAR, [FAR] * 60)] * 80
        self.assertEqual(ask(calls), [-2] * 80)


if __name__ == "__main__":
    unittest.main()
