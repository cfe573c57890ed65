"""Each refusal of each call, which comes first, and that a refusal changes nothing."""

import unittest

from linehelp import LARGEST, NAMES, SIZES, answers, ask, last, line, parted

BEGUN = ("begin", 4, 10, 2)
DAY = (BEGUN, ("chance", 3, 1, 2), ("chance", 5, 0, 1), ("chance", 0, 7, 3))
FULL = (BEGUN,) + tuple(("chance", k, 30 - k, 10 + k) for k in range(30))
SHOWN = (
    ("gain", 0, 4), ("best", 1), ("critical", 2), ("share",), ("sold", 2, 4), ("lost", 1, 2), ("upto", 0, 3),
    ("next", 1, 5), ("known", 2), ("pool",), ("fair", 4, 2), ("lend", 1, 3), ("dear", 0, 5), ("stronger",),
    ("chances",), ("mean", 1), ("state",),
)
ASKED = ("gain", "sold", "lost", "upto", "next")
ASKED_ALONE = ("best", "critical", "known", "mean")
OF_TWO_NUMBERS = ("fair", "lend")
OF_NO_NUMBER = ("pool", "stronger")
NEED_NO_CHANCES = ("share", "chances", "state")

WRONG_PRICES = (
    (4, 10, 5), (11, 10, 2), (4, 1001, 2), (1001, 1001, 2), (10, 10, 10), (0, 0, 0), (1000, 1000, 1000),
    (LARGEST, 10, 2), (4, LARGEST, 2), (4, 10, LARGEST), (LARGEST, LARGEST, LARGEST), (5, 4, 6),
)
WRONG_ROWS = (
    (31, 0, 1), (0, 31, 1), (31, 31, 1), (0, 0, 0), (0, 0, 1001), (31, 31, 0),
    (LARGEST, 0, 1), (0, LARGEST, 1), (0, 0, LARGEST), (LARGEST, LARGEST, LARGEST),
)


WRONG_TWO_NUMBERS = (
    (61, 0), (0, 61), (61, 60), (60, 61), (61, 61), (LARGEST, 0), (0, LARGEST), (LARGEST, LARGEST),
)
# With a price of 10 and 2 that come back.
WRONG_COSTS = (
    (3, 4), (0, 11), (0, 1), (0, 0), (2, 11), (2, 1), (3, 11), (0, 1000), (LARGEST, 4), (0, LARGEST),
    (LARGEST, LARGEST),
)


def some_numbers(name):
    """Numbers that the call takes, at prices of 4, 10 and 2."""
    return (4,) * SIZES[name] if name in ("never", "fair", "lend") else (0, 4)[:SIZES[name]]


class NotBegun(unittest.TestCase):

    def test_every_other_call_is_refused_before_a_begin(self):
        for name in NAMES[1:]:
            for number in (0, 1, LARGEST):
                with self.subTest(name=name, number=number):
                    call = (name,) + (number,) * SIZES[name]
                    self.assertEqual(answers(line([call])), [1, -11])

    def test_all_calls_one_behind_another(self):
        calls = [(name,) + (1,) * SIZES[name] for name in NAMES[1:]]
        self.assertEqual(ask(*calls, BEGUN), [[-11]] * 20 + [[0]])

    def test_a_refused_begin_on_a_new_object_begins_nothing(self):
        for wrong in WRONG_PRICES:
            with self.subTest(wrong=wrong):
                calls = [(name,) + (1,) * SIZES[name] for name in NAMES[1:]]
                self.assertEqual(ask(("begin",) + wrong, *calls), [[-22]] + [[-11]] * 20)

    def test_what_was_refused_before_the_begin_is_not_there_after_it(self):
        self.assertEqual(
            ask(("chance", 3, 1, 2), ("prices", 5, 9, 1), BEGUN, ("gain", 0, 1), ("share",)),
            [[-11], [-11], [0], [-6], [0, 3, 4]],
        )


class OutOfRange(unittest.TestCase):

    def test_begin(self):
        for wrong in WRONG_PRICES:
            with self.subTest(wrong=wrong):
                self.assertEqual(answers(line([("begin",) + wrong])), [1, -22])

    def test_prices(self):
        for wrong in WRONG_PRICES:
            with self.subTest(wrong=wrong):
                self.assertEqual(last(*DAY, ("prices",) + wrong), [-22])
                self.assertEqual(last(BEGUN, ("prices",) + wrong), [-22])

    def test_chance(self):
        for wrong in WRONG_ROWS:
            with self.subTest(wrong=wrong):
                self.assertEqual(last(BEGUN, ("chance",) + wrong), [-22])

    def test_chance_out_of_range_comes_before_too_many(self):
        for wrong in WRONG_ROWS:
            with self.subTest(wrong=wrong):
                self.assertEqual(last(*FULL, ("chance",) + wrong), [-22])

    def test_of_above_2_or_a_number_above_60(self):
        for name in ASKED:
            for of, number in ((3, 0), (2, 61), (0, 61), (3, 61), (LARGEST, 5), (0, LARGEST), (LARGEST, LARGEST)):
                with self.subTest(name=name, of=of, number=number):
                    self.assertEqual(last(*DAY, (name, of, number)), [-22])
        for name in ASKED_ALONE:
            for of in (3, 4, 60, LARGEST):
                with self.subTest(name=name, of=of):
                    self.assertEqual(last(*DAY, (name, of)), [-22])

    def test_next_of_a_number_above_59(self):
        for of in (0, 1, 2, 3):
            for number in (60, 61, LARGEST):
                with self.subTest(of=of, number=number):
                    self.assertEqual(last(*DAY, ("next", of, number)), [-22])
                    self.assertEqual(last(BEGUN, ("next", of, number)), [-22])

    def test_fair_and_lend_of_one_above_60(self):
        for name in OF_TWO_NUMBERS:
            for wrong in WRONG_TWO_NUMBERS:
                with self.subTest(name=name, wrong=wrong):
                    self.assertEqual(last(*DAY, (name,) + wrong), [-22])
                    self.assertEqual(last(BEGUN, (name,) + wrong), [-22])

    def test_dear_of_above_2_or_a_cost_that_is_not_as_told(self):
        for wrong in WRONG_COSTS:
            with self.subTest(wrong=wrong):
                self.assertEqual(last(*DAY, ("dear",) + wrong), [-22])
                self.assertEqual(last(BEGUN, ("dear",) + wrong), [-22])

    def test_dear_goes_by_price_and_back_as_they_are(self):
        # 7 of 8 is asked for then, and here 5 of 6 come up to 3.
        self.assertEqual(
            ask(*DAY, ("dear", 0, 11), ("prices", 4, 11, 3), ("dear", 0, 11), ("dear", 0, 2), ("dear", 0, 3))[4:],
            [[-22], [0, 4, 10, 2], [0, 5], [-22], [5, 5]],
        )

    def test_out_of_range_comes_before_none(self):
        for name in ASKED:
            for of, number in ((3, 0), (0, 61), (LARGEST, LARGEST)):
                with self.subTest(name=name, of=of, number=number):
                    self.assertEqual(last(BEGUN, (name, of, number)), [-22])
        for name in ASKED_ALONE:
            for of in (3, LARGEST):
                with self.subTest(name=name, of=of):
                    self.assertEqual(last(BEGUN, (name, of)), [-22])


class NoneThere(unittest.TestCase):

    def test_no_chances_yet(self):
        for of in (0, 1, 2):
            for name in ASKED:
                for number in (0, 59):
                    with self.subTest(name=name, of=of, number=number):
                        self.assertEqual(answers(line([BEGUN, (name, of, number)])), [1, 0, 1, -6])
            for name in ASKED_ALONE:
                with self.subTest(name=name, of=of):
                    self.assertEqual(answers(line([BEGUN, (name, of)])), [1, 0, 1, -6])

    def test_no_chances_yet_of_two_numbers_a_cost_or_nothing(self):
        calls = [(name,) + numbers for name in OF_TWO_NUMBERS for numbers in ((0, 0), (60, 0), (0, 60), (60, 60))]
        calls += [("dear", of, cost) for of in (0, 1, 2) for cost in (2, 4, 10)]
        calls += [(name,) for name in OF_NO_NUMBER] + [("next", of, 59) for of in (0, 1, 2)]
        for call in calls:
            with self.subTest(call=call):
                self.assertEqual(answers(line([BEGUN, call])), [1, 0, 1, -6])

    def test_no_chances_any_more(self):
        for call in SHOWN:
            if call[0] not in NEED_NO_CHANCES:
                with self.subTest(call=call):
                    self.assertEqual(last(BEGUN, ("chance", 3, 1, 2), ("never", 3, 1), call), [-6])
                    self.assertEqual(last(*DAY, BEGUN, call), [-6])

    def test_share_chances_and_state_need_no_chances(self):
        self.assertEqual(
            ask(BEGUN, ("share",), ("chances",), ("state",)), [[0], [0, 3, 4], [0], [0, 0, 4, 10, 2]]
        )

    def test_never_of_what_no_row_has(self):
        for here, there in ((1, 3), (3, 0), (5, 1), (0, 0), (31, 0), (0, 61), (LARGEST, LARGEST), (LARGEST, 1)):
            with self.subTest(here=here, there=there):
                self.assertEqual(last(*DAY, ("never", here, there)), [-6])

    def test_never_without_rows(self):
        self.assertEqual(last(BEGUN, ("never", 0, 0)), [-6])
        self.assertEqual(last(*DAY, ("never", 5, 0), ("never", 5, 0)), [-6])


class TooMany(unittest.TestCase):

    def test_the_31st_row(self):
        whole = sum(10 + k for k in range(30))
        self.assertEqual(ask(*FULL, ("chance", 0, 30, 1), ("upto", 2, 60))[-3:], [[whole], [-28], [whole, whole]])

    def test_room_again_behind_a_never(self):
        whole = sum(10 + k for k in range(30))
        self.assertEqual(
            ask(*FULL, ("never", 0, 30), ("chance", 1, 1, 7), ("chance", 1, 1, 7))[-3:],
            [[whole - 10], [whole - 3], [-28]],
        )


class NothingChanged(unittest.TestCase):

    def refused_calls(self):
        refused = [("begin",) + wrong for wrong in WRONG_PRICES]
        refused += [("prices",) + wrong for wrong in WRONG_PRICES]
        refused += [("chance",) + wrong for wrong in WRONG_ROWS]
        refused += [("never", 30, 30), ("never", LARGEST, 0)]
        refused += [(name, 3, 0) for name in ASKED] + [(name, 0, 61) for name in ASKED] + [("next", 0, 60)]
        refused += [(name,) + wrong for name in OF_TWO_NUMBERS for wrong in WRONG_TWO_NUMBERS]
        refused += [("dear",) + wrong for wrong in WRONG_COSTS]
        return refused + [(name, 3) for name in ASKED_ALONE]

    def check(self, before, call, behind):
        told = ask(*before, call, *behind)
        self.assertEqual(len(told[len(before)]), 1)
        self.assertLess(told[len(before)][0], 0)
        self.assertEqual(told[:len(before)] + told[len(before) + 1:], ask(*before, *behind))

    def test_calls_behind_a_refusal_answer_as_if_it_had_not_been_made(self):
        behind = SHOWN + (("chance", 3, 1, 4), ("never", 3, 1)) + SHOWN + (("prices", 1, 2, 0),)
        for before in ((BEGUN,), DAY, FULL):
            for call in self.refused_calls():
                with self.subTest(call=call, rows=len(before) - 1):
                    self.check(before, call, behind)

    def test_one_row_too_many(self):
        self.check(FULL, ("chance", 3, 1, 4), SHOWN + (("never", 3, 27),) + SHOWN)

    def test_none_there(self):
        for name in ASKED + ASKED_ALONE + OF_TWO_NUMBERS + OF_NO_NUMBER + ("dear", "never"):
            with self.subTest(name=name):
                self.check((BEGUN,), (name,) + some_numbers(name), DAY[1:] + SHOWN)
                self.assertEqual(ask(BEGUN, (name,) + some_numbers(name)), [[0], [-6]])

    def test_not_begun(self):
        for name in NAMES[1:]:
            with self.subTest(name=name):
                self.check((), (name,) + (1,) * SIZES[name], DAY + SHOWN)

    def test_a_refusal_is_one_number(self):
        calls = self.refused_calls()
        told = answers(line(list(DAY) + calls))
        self.assertEqual([len(part) for part in parted(told)[4:]], [1] * len(calls))
        self.assertEqual({call[0] for call in calls}, set(NAMES) - set(NEED_NO_CHANCES + OF_NO_NUMBER))


if __name__ == "__main__":
    unittest.main()
