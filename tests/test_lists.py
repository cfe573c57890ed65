"""The interface: how calls lie in one list, and answers in one list."""

import unittest

import perishingday.store
from linehelp import LARGEST, NAMES, SIZES, answers, ask, last, line, parted, told

BEGUN = ("begin", 4, 10, 2)
DAY = (BEGUN, ("chance", 3, 1, 2), ("chance", 5, 0, 1), ("chance", 0, 7, 3))
ASKED = (
    ("gain", 0, 4), ("best", 1), ("critical", 2), ("share",), ("sold", 2, 4), ("lost", 1, 2), ("upto", 0, 3),
    ("next", 1, 5), ("known", 2), ("pool",), ("fair", 4, 2), ("lend", 4, 2), ("dear", 0, 5), ("stronger",),
    ("chances",), ("mean", 1), ("state",),
)


class Lists(unittest.TestCase):

    def test_one_list_with_every_call(self):
        numbers = [
            0, 4, 10, 2, 1, 3, 1, 2, 1, 5, 0, 1, 1, 0, 7, 3, 2, 5, 0, 3, 4, 10, 3, 3, 4, 10, 2,
            4, 0, 4, 5, 0, 6, 0, 7, 8, 0, 4, 9, 0, 1, 10, 0, 3,
            11, 0, 2, 12, 0, 13, 14, 4, 0, 15, 4, 1, 16, 0, 10, 17, 18, 19, 0, 20,
        ]
        # Without the 5 wanted once, here are 3 twice and 0 three times, there 1 twice and 7 three times,
        # together 4 twice and 7 three times. The best are 3 here, 18 of 5, 7 there, 114 of 5, and 7, 162 of 5.
        self.assertEqual(answers(numbers), [
            1, 0, 1, 2, 1, 3, 1, 6, 1, 5, 4, 0, 4, 10, 2, 4, 0, 4, 10, 3,
            3, 0, 8, 5, 3, 3, 18, 5, 3, 3, 5, 5, 3, 0, 3, 4, 5, 0, 6, 5, 14, 5, 3, 0, 4, 5, 2, 5, 5,
            3, 0, 6, 5, 5, 0, 36, 5, 18, 5, 5, 7, 3, 7, 6, 1, 3, 0, 8, 5, 5, 0, 134, 5, 23, 5, 2, 0, 3, 2, 0, 1,
            7, 2, 3, 1, 2, 0, 7, 3, 3, 0, 6, 5, 5, 5, 2, 4, 10, 2,
        ])

    def test_one_call(self):
        self.assertEqual(answers([7]), [1, -11])
        self.assertEqual(answers([0, 0, 1, 0]), [1, 0])

    def test_whole_numbers_in_a_list(self):
        wrong = tuple((name,) + (LARGEST,) * SIZES[name] for name in NAMES)
        given = answers(line(DAY + ASKED + wrong + (("prices", 1, 2, 0), ("never", 3, 1)) + ASKED))
        self.assertIs(type(given), list)
        self.assertEqual({type(number) for number in given}, {int})

    def test_what_is_handed_in_is_as_it_was(self):
        numbers = line(DAY + ASKED + (("prices", 1, 2, 0), ("never", 3, 1), ("chance", LARGEST, 0, 0)) + DAY)
        before = list(numbers)
        answers(numbers)
        self.assertEqual(numbers, before)

    def test_what_is_handed_in_is_not_changed_for_a_while_either(self):
        class Watched(list):
            def refuse(self, *given):
                raise AssertionError("changed")
            append = extend = insert = pop = remove = clear = sort = reverse = refuse
            __setitem__ = __delitem__ = __iadd__ = __imul__ = refuse
        numbers = line(DAY + ASKED)
        self.assertEqual(answers(Watched(numbers)), answers(numbers))

    def test_the_same_list_answers_the_same_a_second_time(self):
        numbers = line(DAY + ASKED + (("prices", 1, 2, 0), ("never", 3, 1)))
        first = answers(numbers)
        kept = list(first)
        self.assertEqual(answers(numbers), kept)
        first.append(5)
        self.assertEqual(answers(numbers), kept)

    def test_nothing_is_kept_from_one_list_to_the_next(self):
        answers(line(DAY))
        self.assertEqual(ask(("gain", 0, 4), ("chance", 1, 1, 1)), [[-11], [-11]])
        self.assertEqual(ask(BEGUN, ("gain", 0, 4), ("chance", 1, 1, 1)), [[0], [-6], [1]])

    def test_400_calls(self):
        calls = list(DAY) + [("upto", k % 3, k % 61) for k in range(396)]
        self.assertEqual(len(calls), 400)
        self.assertEqual(ask(*calls), told(*calls))

    def test_400_calls_for_the_best_of_30_rows(self):
        calls = [BEGUN] + [("chance", k, 29 - k, 1 + 33 * k) for k in range(30)]
        calls += [("best", k % 3) for k in range(369)]
        parts = ask(*calls)
        self.assertEqual(len(parts), 400)
        self.assertEqual(parts[31:34], told(*calls[:34])[31:])
        self.assertEqual(parts[31:], parts[31:34] * 123)

    def test_400_calls_that_take_the_most_work_on_30_rows(self):
        day = [BEGUN] + [("chance", k, 29 - k, 1 + 33 * k) for k in range(30)]
        for name in ("pool", "known", "dear", "stronger", "chances"):
            with self.subTest(name=name):
                calls = day + [(name,) + (2, 7)[:SIZES[name]]] * 369
                parts = ask(*calls)
                self.assertEqual(len(parts), 400)
                self.assertEqual(parts[31:], told(*calls[:32])[31:] * 369)

    def test_400_calls_of_all_kinds(self):
        calls = (list(DAY) + [("never", 9, 9), ("prices", 4, 10, 2)] + list(ASKED)) * 18
        calls = (calls + [("never", 3, 1), ("state",)] * 10)[:400]
        self.assertEqual(len(calls), 400)
        self.assertEqual({call[0] for call in calls}, set(NAMES))
        numbers = line(calls)
        before = list(numbers)
        first = answers(numbers)
        self.assertEqual(parted(first), told(*calls))
        self.assertEqual(answers(numbers), first)
        self.assertEqual(numbers, before)

    def test_1600_numbers(self):
        calls = [BEGUN] + [("chance", k % 31, k % 7, 1 + k) for k in range(30)]
        for k in range(123):
            calls += [("prices", k, 2 * k + 1, 0), ("chance", 1, 1, 1), ("begin", k, k, k)]
        self.assertEqual((len(calls), len(line(calls))), (400, 1600))
        expected = told(*calls)
        self.assertEqual(ask(*calls), expected)
        self.assertEqual(expected[-3:], [[0, 121, 243, 0], [-28], [-22]])

    def test_1600_numbers_of_refusals(self):
        self.assertEqual(answers([1, LARGEST, LARGEST, LARGEST] * 400), [1, -11] * 400)
        self.assertEqual(answers([0, LARGEST, LARGEST, LARGEST] * 400), [1, -22] * 400)

    def test_a_list_is_parted_rightly_round_every_call(self):
        for name in NAMES:
            call = (name,) + (1,) * SIZES[name]
            with self.subTest(name=name):
                parts = parted(answers(line((call, BEGUN, ("chance", 3, 1, 2), ("gain", 0, 3)))))
                self.assertEqual(parts[1:], [[0], [2], [0, 18, 1]])
                self.assertEqual(parted(answers(line(DAY + (call, BEGUN, ("share",)))))[-2:], [[0], [0, 3, 4]])

    def test_the_names_of_the_interface(self):
        self.assertIs(perishingday.store.answers, answers)
        self.assertEqual(last(BEGUN), [0])


if __name__ == "__main__":
    unittest.main()
