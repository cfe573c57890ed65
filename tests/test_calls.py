"""What each call answers to ordinary numbers, whole, with how many numbers it has."""

import unittest

from linehelp import answers, ask, last

BEGUN = ("begin", 4, 10, 2)
DAY = (BEGUN, ("chance", 3, 1, 2), ("chance", 5, 0, 1), ("chance", 0, 7, 3))


class Setting(unittest.TestCase):

    def test_begin(self):
        self.assertEqual(answers([0, 4, 10, 2]), [1, 0])

    def test_begin_anew_leaves_no_chances_and_other_prices(self):
        self.assertEqual(
            ask(*DAY, ("begin", 5, 9, 1), ("gain", 0, 3), ("share",), ("chance", 1, 1, 8), ("gain", 0, 1)),
            [[0], [2], [3], [6], [0], [-6], [0, 1, 2], [8], [0, 4, 1]],
        )

    def test_chance_answers_all(self):
        self.assertEqual(
            answers([0, 4, 10, 2, 1, 3, 1, 2, 1, 5, 0, 1, 1, 0, 7, 1000]), [1, 0, 1, 2, 1, 3, 1, 1003]
        )

    def test_never_takes_every_row_that_has_just_these(self):
        self.assertEqual(
            ask(*DAY, ("chance", 3, 1, 9), ("chance", 1, 3, 4), ("never", 3, 1), ("upto", 0, 60)),
            [[0], [2], [3], [6], [15], [19], [8], [8, 8]],
        )

    def test_never_of_the_last_row_answers_0(self):
        self.assertEqual(
            answers([0, 4, 10, 2, 1, 3, 1, 2, 2, 3, 1, 5, 0]), [1, 0, 1, 2, 1, 0, 1, -6]
        )

    def test_never_leaves_the_rows_that_share_one_number(self):
        self.assertEqual(
            ask(BEGUN, ("chance", 3, 1, 2), ("chance", 3, 2, 5), ("chance", 4, 1, 7), ("never", 3, 1))[-1], [12]
        )

    def test_prices_answers_what_they_were(self):
        self.assertEqual(
            answers([0, 4, 10, 2, 3, 5, 9, 1, 3, 6, 8, 0]), [1, 0, 4, 0, 4, 10, 2, 4, 0, 5, 9, 1]
        )

    def test_prices_hold_from_then_on_and_rows_stay(self):
        self.assertEqual(
            ask(BEGUN, ("chance", 3, 1, 2), ("gain", 0, 3), ("prices", 5, 9, 1), ("gain", 0, 3), ("share",)),
            [[0], [2], [0, 18, 1], [0, 4, 10, 2], [0, 12, 1], [0, 1, 2]],
        )


class Asking(unittest.TestCase):
    """DAY: wanted here 3, 5, 0, there 1, 0, 7, together 4, 5, 7; that comes 2, 1, 3 times."""

    def test_gain(self):
        # With 4 here: 3 * 10 + 2 - 16 = 16 twice, 40 - 16 = 24 once, 8 - 16 = -8 three times: 32 of 6.
        self.assertEqual(answers([0, 4, 10, 2, 1, 3, 1, 2, 1, 5, 0, 1, 1, 0, 7, 3, 4, 0, 4])[-4:], [3, 0, 16, 3])

    def test_gain_there(self):
        # 10 + 6 - 16 = 0 twice, 8 - 16 = -8 once, 40 - 16 = 24 three times: 64 of 6.
        self.assertEqual(last(*DAY, ("gain", 1, 4)), [0, 32, 3])

    def test_gain_of_both(self):
        # With 6: 44 - 24 = 20 twice, 52 - 24 = 28 once, 60 - 24 = 36 three times: 176 of 6.
        self.assertEqual(last(*DAY, ("gain", 2, 6)), [0, 88, 3])

    def test_gain_of_none_bought(self):
        self.assertEqual(last(*DAY, ("gain", 0, 0)), [0, 0, 1])

    def test_best(self):
        # A piece gains 6 where it is sold and loses 2 where it is left. Here the first three are sold
        # 3 times of 6: 2 each; the fourth once of 6: -4 of 6.
        self.assertEqual(answers([0, 4, 10, 2, 1, 3, 1, 2, 1, 5, 0, 1, 1, 0, 7, 3, 5, 0])[-4:], [3, 3, 6, 1])

    def test_best_there_and_of_both(self):
        # There with 7: 10 + 12 - 28 = -6 twice, 14 - 28 = -14 once, 42 three times: 100 of 6.
        self.assertEqual(last(*DAY, ("best", 1)), [7, 50, 3])
        # Together with 7: 46 - 28 = 18 twice, 54 - 28 = 26 once, 42 three times: 188 of 6.
        self.assertEqual(last(*DAY, ("best", 2)), [7, 94, 3])

    def test_critical(self):
        # 6 of 8 is asked for: here 3 come up to 0, 5 up to 3.
        self.assertEqual(answers([0, 4, 10, 2, 1, 3, 1, 2, 1, 5, 0, 1, 1, 0, 7, 3, 6, 0])[-4:], [3, 3, 5, 6])

    def test_critical_there_and_of_both(self):
        self.assertEqual(last(*DAY, ("critical", 1)), [7, 6, 6])
        self.assertEqual(last(*DAY, ("critical", 2)), [7, 6, 6])

    def test_critical_tells_how_often_not_a_fraction(self):
        self.assertEqual(last(BEGUN, ("chance", 2, 0, 4), ("chance", 9, 0, 1), ("chance", 9, 0, 1),
                              ("prices", 5, 10, 0), ("critical", 0)), [2, 4, 6])

    def test_share(self):
        self.assertEqual(answers([0, 4, 10, 2, 7]), [1, 0, 3, 0, 3, 4])

    def test_share_is_by_the_prices_that_hold(self):
        self.assertEqual(last(BEGUN, ("prices", 3, 10, 0), ("share",)), [0, 7, 10])

    def test_sold_and_left(self):
        # With 4 here: sold 3 twice, 4 once, 0 three times: 10 of 6; left 1 twice, 4 three times: 14 of 6.
        self.assertEqual(
            answers([0, 4, 10, 2, 1, 3, 1, 2, 1, 5, 0, 1, 1, 0, 7, 3, 8, 0, 4])[-6:], [5, 0, 5, 3, 7, 3]
        )

    def test_sold_there_and_of_both(self):
        self.assertEqual(last(*DAY, ("sold", 1, 2)), [0, 4, 3, 2, 3])
        self.assertEqual(last(*DAY, ("sold", 2, 6)), [0, 31, 6, 5, 6])

    def test_lost(self):
        # With 1 here: 2 twice, 4 once: 8 of 6.
        self.assertEqual(answers([0, 4, 10, 2, 1, 3, 1, 2, 1, 5, 0, 1, 1, 0, 7, 3, 9, 0, 1])[-4:], [3, 0, 4, 3])

    def test_lost_there_and_of_both(self):
        self.assertEqual(last(*DAY, ("lost", 1, 5)), [0, 1, 1])
        self.assertEqual(last(*DAY, ("lost", 2, 4)), [0, 5, 3])

    def test_upto(self):
        self.assertEqual(answers([0, 4, 10, 2, 1, 3, 1, 2, 1, 5, 0, 1, 1, 0, 7, 3, 10, 0, 3])[-3:], [2, 5, 6])

    def test_upto_counts_what_is_just_met_and_no_more(self):
        self.assertEqual(
            ask(*DAY, ("upto", 0, 2), ("upto", 0, 4), ("upto", 0, 5), ("upto", 1, 0), ("upto", 1, 6),
                ("upto", 2, 3), ("upto", 2, 4), ("upto", 2, 7))[4:],
            [[3, 6], [5, 6], [6, 6], [1, 6], [3, 6], [0, 6], [2, 6], [6, 6]],
        )

    def test_fractions_have_nothing_in_common(self):
        self.assertEqual(last(BEGUN, ("chance", 6, 0, 500), ("chance", 0, 0, 1000), ("sold", 0, 6)), [0, 2, 1, 4, 1])
        self.assertEqual(last(BEGUN, ("chance", 1, 0, 1000), ("chance", 0, 0, 600), ("sold", 0, 1)), [0, 5, 8, 3, 8])

    def test_a_fraction_of_nothing_is_0_and_1(self):
        self.assertEqual(last(*DAY, ("sold", 0, 0)), [0, 0, 1, 0, 1])
        self.assertEqual(last(*DAY, ("lost", 0, 5)), [0, 0, 1])
        self.assertEqual(last(("begin", 7, 7, 3), ("share",)), [0, 0, 1])

    def test_asking_changes_nothing(self):
        asked = (("gain", 0, 4), ("best", 1), ("critical", 2), ("share",), ("sold", 0, 4), ("lost", 1, 2),
                 ("upto", 2, 5))
        told = ask(*DAY, *asked, *asked)
        self.assertEqual(told[4:11], told[11:])


if __name__ == "__main__":
    unittest.main()
