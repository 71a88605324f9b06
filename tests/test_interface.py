"""The interface: how calls are handed in and answered."""

import random
import time
import unittest

from asking import (
    FEWEST, PLAN, REACH, SORTED, STATE, PlainRack, ask, begins, fill, lost, may, mixed_rack, pour, rack_of, tube_of,
)
from tubedrops.rack import answers

FAR = 4294967295


class Beginning(unittest.TestCase):
    def test_two_empty_tubes_that_hold_one_drop(self):
        calls = [fill(0, []), fill(1, []), fill(2, []), fill(0, [1, 1]), fill(1, [5]), may(1, 0), fill(0, [4])]
        self.assertEqual(ask(calls), [0, 0, -2, -1, 1, 1, 2])

    def test_each_call_as_the_first(self):
        for call, expected in (
            (begins(3, 4), 12), (begins(0, 2), -1), (fill(1, [0]), 1), (fill(0, [0, 0]), -1), (fill(2, []), -2),
            (pour(0, 1), -6), (pour(1, 1), -6), (pour(0, 2), -2), (may(0, 1), 0), (may(1, 1), -1), (may(2, 2), -2),
            (SORTED, 1), (FEWEST, 0), (PLAN, (0, [])), (REACH, (1, [1, 0])), (lost(0, 1), -6), (lost(1, 1), -6),
            (lost(0, 2), -2), (tube_of(0), (0, [])), (tube_of(1), (0, [])), (tube_of(2), -2),
            (STATE, (0, [1, 2], [0, 0])),
        ):
            self.assertEqual(ask([call]), [expected], call)

    def test_pourings_without_any_begins(self):
        calls = [fill(0, [3]), pour(0, 1), pour(0, 1), pour(1, 0), SORTED, FEWEST, fill(1, [3]), SORTED, FEWEST]
        self.assertEqual(ask(calls), [1, 1, -6, 1, 1, 0, 2, 0, -6])
        calls = [fill(1, [3]), REACH, lost(1, 0), pour(1, 0), STATE, fill(1, [3]), PLAN, REACH]
        self.assertEqual(ask(calls), [1, (2, [2, 0]), (0, [0]), 1, (1, [1, 2], [1, 3, 0]), 2, -6, (1, [0, 1])])


class Layout(unittest.TestCase):
    def test_each_answer_lies_behind_how_many_numbers_it_has(self):
        calls = [0, 2, 3, 1, 0, 2, 0, 1, 1, 1, 2, 1, 0, 4, 5, 3, 0, 2, 2, 0, 2, 2, 0, 0, 3, 1, 1, 1, 9, 0, 5]
        self.assertEqual(
            answers(calls),
            [1, 6, 1, 2, 1, 4, 1, 0, 1, 3, 1, 1, 1, 1, 1, -6, 1, -1, 1, -2, 1, 2],
        )

    def test_each_list_lies_behind_how_many_numbers_it_has(self):
        rack = [0, 3, 3, 1, 0, 2, 0, 1, 1, 1, 2, 1, 2]
        laid_out = [1, 9, 1, 2, 1, 4]
        for call, expected in (
            ([6], [6, 2, 4, 1, 2, 0, 1]),
            ([7], [4, 7, 2, 2, 1]),
            ([8, 1, 2], [3, 0, 1, 1]),
            ([8, 0, 2], [1, 1]),
            ([8, 2, 0], [1, -6]),
            ([8, 0, 3], [1, -2]),
            ([9, 1], [4, 2, 2, 1, 2]),
            ([9, 2], [2, 0, 0]),
            ([9, 3], [1, -2]),
            ([10], [12, 0, 2, 3, 3, 7, 2, 0, 1, 2, 1, 2, 0]),
        ):
            self.assertEqual(answers(rack + call), laid_out + expected, call)
            self.assertEqual(answers(rack + call + [4] + call), laid_out + expected + [1, 0] + expected, call)
        self.assertEqual(answers([6]), [2, 0, 0])
        self.assertEqual(answers([1, 0, 1, 0, 1, 1, 1, 0, 6, 7, 8, 0, 1]), [1, 1, 1, 2, 1, -6, 4, 1, 2, 0, 1, 1, -6])

    def test_all_eleven_calls_in_one_list(self):
        calls = [
            0, 3, 3, 1, 0, 2, 0, 1, 1, 1, 2, 1, 2, 3, 1, 2, 4, 5, 6, 7, 8, 1, 2, 2, 1, 2, 8, 0, 1, 9, 1, 10,
            2, 0, 1, 4, 5, 6, 7, 8, 0, 2, 9, 1, 10,
        ]
        self.assertEqual(
            answers(calls),
            [
                1, 9, 1, 2, 1, 4, 1, 1, 1, 0, 1, 2, 6, 2, 4, 1, 2, 0, 1, 4, 7, 2, 2, 1, 3, 0, 1, 1, 1, 1,
                3, 0, 1, 0, 3, 1, 1, 1, 12, 1, 2, 3, 3, 7, 2, 0, 1, 1, 1, 1, 2,
                1, 1, 1, 1, 1, 0, 2, 0, 0, 4, 1, 2, 1, 0, 1, -6, 4, 2, 2, 1, 1, 12, 2, 2, 3, 3, 7, 1, 0, 2, 1, 1, 1, 2,
            ],
        )

    def test_a_row_lies_behind_how_many_numbers_it_has(self):
        self.assertEqual(answers([1, 0, 0, 4]), [1, 0, 1, 1])
        self.assertEqual(answers([1, 0, 1, 4, 4]), [1, 1, 1, 1])
        self.assertEqual(answers([1, 0, 60] + [0] * 60 + [5]), [1, -1, 1, 0])

    def test_what_is_handed_in_is_as_it_was(self):
        calls = [
            0, 4, 3, 1, 0, 3, 0, 1, 1, 1, 1, 2, 1, 0, 2, 0, 2, 2, 2, 2, 3, 0, 1, 4, 5, 6, 7, 8, 0, 1, 8, 3, 0, 9, 1, 10,
            1, 0, 5, 0, 0, 0, 0, 0,
        ]
        copy = list(calls)
        given = answers(calls)
        self.assertEqual(calls, copy)
        self.assertEqual(answers(calls), given)
        given.append(7)
        self.assertEqual(calls, copy)

    def test_a_second_call_knows_nothing_of_the_first(self):
        first = [STATE, fill(1, []), may(0, 1), SORTED, FEWEST, PLAN, REACH, lost(0, 1), tube_of(0), fill(0, [1, 1])]
        new = ask(first)
        self.assertEqual(new, [(0, [1, 2], [0, 0]), 0, 0, 1, 0, (0, []), (1, [1, 0]), -6, (0, []), -1])
        ask(rack_of(4, [[0, 1], [1, 0], [2], [], [3, 3, 3]]) + [pour(0, 3), FEWEST, PLAN, REACH, lost(1, 3)])
        self.assertEqual(ask(first), new)
        ask([fill(0, [1]), fill(1, [1]), REACH])
        self.assertEqual(ask(first), new)
        ask([fill(0, [1]), pour(0, 1)])
        self.assertEqual(ask(first), new)

    def test_what_is_given_back_is_new_each_time(self):
        given = answers([6, 7, 9, 0, 10])
        copy = list(given)
        given.extend([0, 0])
        given[0] = 7
        self.assertEqual(answers([6, 7, 9, 0, 10]), copy)


def any_call(draw):
    """One call, of those that are taken and of those that are refused."""
    near = (0, 0, 1, 1, 2, 3, 4, 5, FAR)
    kind = draw.choice((0, 1, 1, 1, 1, 1, 1, 2, 2, 2, 2, 2, 2, 3, 4, 5, 6, 6, 7, 7, 8, 8, 8, 9, 10))
    if kind == 0:
        return begins(draw.choice((0, 1, 2, 2, 3, 4, 5)), draw.choice((1, 2, 3, 3, 4, 5, 6)))
    if kind == 1:
        drops = draw.choice((0, 1, 2, 2, 3, 4, 5))
        return fill(draw.choice(near), [draw.choice((0, 0, 1, 1, 2, 5, 6)[:draw.choice((4, 7))]) for _ in range(drops)])
    if kind in (2, 3, 8):
        return [kind, draw.choice(near), draw.choice(near)]
    return tube_of(draw.choice(near)) if kind == 9 else [kind]


class ManyCalls(unittest.TestCase):
    def test_lists_of_80_calls_as_the_plain_model_answers(self):
        draw = random.Random(20)
        for _ in range(120):
            calls = [begins(draw.choice((1, 2, 3, 4)), draw.choice((2, 3, 4, 5)))]
            calls += [any_call(draw) for _ in range(79)]
            plain = PlainRack()
            self.assertEqual(ask(calls), [plain.answer(call) for call in calls], calls)

    def test_lists_of_80_calls_without_another_begins(self):
        draw = random.Random(21)
        for _ in range(60):
            holds, tubes = mixed_rack(draw)
            calls = rack_of(holds, tubes)
            while len(calls) < 80:
                pair = draw.randrange(len(tubes)), draw.randrange(len(tubes))
                calls.append(draw.choice((pour, pour, may, lost, lost))(*pair))
                calls.append(draw.choice((SORTED, FEWEST, PLAN, REACH, tube_of(pair[0]), STATE)))
            calls = calls[:80]
            plain = PlainRack()
            self.assertEqual(ask(calls), [plain.answer(call) for call in calls], calls)

    def test_they_are_answered_in_reasonable_time(self):
        for holds, tubes, expected in (
            # 299, 300, 301 and 302 racks; far more.
            (3, [[0, 0, 1], [], [2, 3, 1], [], [0, 3, 2]], [6, 6, 299, 0]),
            (4, [[2, 0, 1, 3], [], [2, 0, 1, 3], [0, 1, 1, 2], []], [9, 9, 300, 0]),
            (4, [[0, 3, 3, 2], [], [0, 3, 1, 1], [], [2, 0, 1, 3]], [-9] * 4),
            (3, [[0, 2, 3], [], [], [0, 2, 1], [0, 2, 3]], [-9] * 4),
            (4, [[0, 1, 2, 3], [1, 2, 3, 0], [2, 3, 0, 1], [], []], [-9] * 4),
        ):
            asked = [FEWEST, PLAN, REACH, lost(0, 1)]
            once = ask(rack_of(holds, tubes) + asked)[6:]
            self.assertEqual(once, [PlainRack(holds, tubes).answer(call) for call in asked])
            numbers = [answer if isinstance(answer, int) else answer[0] for answer in once]
            self.assertEqual(numbers, expected)
            begun = time.monotonic()
            given = ask(rack_of(holds, tubes) + asked * 18)
            self.assertLess(time.monotonic() - begun, 20)
            self.assertEqual(given[6:], once * 18)

    def test_80_of_each_that_looks_ahead(self):
        tubes = [[2, 0, 1, 3], [], [2, 0, 1, 3], [0, 1, 1, 2], []]
        plain = PlainRack(4, tubes)
        begun = time.monotonic()
        for call in (FEWEST, PLAN, REACH, lost(0, 1), lost(3, 1), lost(1, 0)):
            self.assertEqual(ask(rack_of(4, tubes) + [call] * 74)[6:], [plain.answer(call)] * 74)
        self.assertLess(time.monotonic() - begun, 60)

    def test_80_calls_of_the_longest(self):
        calls = [fill(FAR, [FAR] * 60)] * 80
        self.assertEqual(ask(calls), [-2] * 80)


if __name__ == "__main__":
    unittest.main()
