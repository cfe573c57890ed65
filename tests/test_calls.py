"""What each call answers to ordinary numbers, whole, with how many numbers it has."""

import unittest

from linehelp import answers, ask, last

BEGUN = ("begin", 4, 10, 2)
DAY = (BEGUN, ("chance", 3, 1, 2), ("chance", 5, 0, 1), ("chance", 0, 7, 3))


class Setting(unittest.TestCase):

    def test_begin(self):
        self.assertEqual(answers([0, 4, 10, 2]), [1, 0])

    def test_begin_anew_leaves_no_chances_and_other_prices(self):
        self.assertEqual(
            ask(*DAY, ("begin", 5, 9, 1), ("gain", 0, 3), ("share",), ("chance", 1, 1, 8), ("gain", 0, 1)),
            [[0], [2], [3], [6], [0], [-6], [0, 1, 2], [8], [0, 4, 1]],
        )

    def test_chance_answers_all(self):
        self.assertEqual(
            answers([0, 4, 10, 2, 1, 3, 1, 2, 1, 5, 0, 1, 1, 0, 7, 1000]), [1, 0, 1, 2, 1, 3, 1, 1003]
        )

    def test_never_takes_every_row_that_has_just_these(self):
        self.assertEqual(
            ask(*DAY, ("chance", 3, 1, 9), ("chance", 1, 3, 4), ("never", 3, 1), ("upto", 0, 60)),
            [[0], [2], [3], [6], [15], [19], [8], [8, 8]],
        )

    def test_never_of_the_last_row_answers_0(self):
        self.assertEqual(
            answers([0, 4, 10, 2, 1, 3, 1, 2, 2, 3, 1, 5, 0]), [1, 0, 1, 2, 1, 0, 1, -6]
        )

    def test_never_leaves_the_rows_that_share_one_number(self):
        self.assertEqual(
            ask(BEGUN, ("chance", 3, 1, 2), ("chance", 3, 2, 5), ("chance", 4, 1, 7), ("never", 3, 1))[-1], [12]
        )

    def test_prices_answers_what_they_were(self):
        self.assertEqual(
            answers([0, 4, 10, 2, 3, 5, 9, 1, 3, 6, 8, 0]), [1, 0, 4, 0, 4, 10, 2, 4, 0, 5, 9, 1]
        )

    def test_prices_hold_from_then_on_and_rows_stay(self):
        self.assertEqual(
            ask(BEGUN, ("chance", 3, 1, 2), ("gain", 0, 3), ("prices", 5, 9, 1), ("gain", 0, 3), ("share",)),
            [[0], [2], [0, 18, 1], [0, 4, 10, 2], [0, 12, 1], [0, 1, 2]],
        )


class Asking(unittest.TestCase):
    """DAY: wanted here 3, 5, 0, there 1, 0, 7, together 4, 5, 7; that comes 2, 1, 3 times."""

    def test_gain(self):
        # With 4 here: 3 * 10 + 2 - 16 = 16 twice, 40 - 16 = 24 once, 8 - 16 = -8 three times: 32 of 6.
        self.assertEqual(answers([0, 4, 10, 2, 1, 3, 1, 2, 1, 5, 0, 1, 1, 0, 7, 3, 4, 0, 4])[-4:], [3, 0, 16, 3])

    def test_gain_there(self):
        # 10 + 6 - 16 = 0 twice, 8 - 16 = -8 once, 40 - 16 = 24 three times: 64 of 6.
        self.assertEqual(last(*DAY, ("gain", 1, 4)), [0, 32, 3])

    def test_gain_of_both(self):
        # With 6: 44 - 24 = 20 twice, 52 - 24 = 28 once, 60 - 24 = 36 three times: 176 of 6.
        self.assertEqual(last(*DAY, ("gain", 2, 6)), [0, 88, 3])

    def test_gain_of_none_bought(self):
        self.assertEqual(last(*DAY, ("gain", 0, 0)), [0, 0, 1])

    def test_best(self):
        # A piece gains 6 where it is sold and loses 2 where it is left. Here the first three are sold
        # 3 times of 6: 2 each; the fourth once of 6: -4 of 6.
        self.assertEqual(answers([0, 4, 10, 2, 1, 3, 1, 2, 1, 5, 0, 1, 1, 0, 7, 3, 5, 0])[-4:], [3, 3, 6, 1])

    def test_best_there_and_of_both(self):
        # There with 7: 10 + 12 - 28 = -6 twice, 14 - 28 = -14 once, 42 three times: 100 of 6.
        self.assertEqual(last(*DAY, ("best", 1)), [7, 50, 3])
        # Together with 7: 46 - 28 = 18 twice, 54 - 28 = 26 once, 42 three times: 188 of 6.
        self.assertEqual(last(*DAY, ("best", 2)), [7, 94, 3])

    def test_critical(self):
        # 6 of 8 is asked for: here 3 come up to 0, 5 up to 3.
        self.assertEqual(answers([0, 4, 10, 2, 1, 3, 1, 2, 1, 5, 0, 1, 1, 0, 7, 3, 6, 0])[-4:], [3, 3, 5, 6])

    def test_critical_there_and_of_both(self):
        self.assertEqual(last(*DAY, ("critical", 1)), [7, 6, 6])
        self.assertEqual(last(*DAY, ("critical", 2)), [7, 6, 6])

    def test_critical_tells_how_often_not_a_fraction(self):
        self.assertEqual(last(BEGUN, ("chance", 2, 0, 4), ("chance", 9, 0, 1), ("chance", 9, 0, 1),
                              ("prices", 5, 10, 0), ("critical", 0)), [2, 4, 6])

    def test_share(self):
        self.assertEqual(answers([0, 4, 10, 2, 7]), [1, 0, 3, 0, 3, 4])

    def test_share_is_by_the_prices_that_hold(self):
        self.assertEqual(last(BEGUN, ("prices", 3, 10, 0), ("share",)), [0, 7, 10])

    def test_sold_and_left(self):
        # With 4 here: sold 3 twice, 4 once, 0 three times: 10 of 6; left 1 twice, 4 three times: 14 of 6.
        self.assertEqual(
            answers([0, 4, 10, 2, 1, 3, 1, 2, 1, 5, 0, 1, 1, 0, 7, 3, 8, 0, 4])[-6:], [5, 0, 5, 3, 7, 3]
        )

    def test_sold_there_and_of_both(self):
        self.assertEqual(last(*DAY, ("sold", 1, 2)), [0, 4, 3, 2, 3])
        self.assertEqual(last(*DAY, ("sold", 2, 6)), [0, 31, 6, 5, 6])

    def test_lost(self):
        # With 1 here: 2 twice, 4 once: 8 of 6.
        self.assertEqual(answers([0, 4, 10, 2, 1, 3, 1, 2, 1, 5, 0, 1, 1, 0, 7, 3, 9, 0, 1])[-4:], [3, 0, 4, 3])

    def test_lost_there_and_of_both(self):
        self.assertEqual(last(*DAY, ("lost", 1, 5)), [0, 1, 1])
        self.assertEqual(last(*DAY, ("lost", 2, 4)), [0, 5, 3])

    def test_upto(self):
        self.assertEqual(answers([0, 4, 10, 2, 1, 3, 1, 2, 1, 5, 0, 1, 1, 0, 7, 3, 10, 0, 3])[-3:], [2, 5, 6])

    def test_upto_counts_what_is_just_met_and_no_more(self):
        self.assertEqual(
            ask(*DAY, ("upto", 0, 2), ("upto", 0, 4), ("upto", 0, 5), ("upto", 1, 0), ("upto", 1, 6),
                ("upto", 2, 3), ("upto", 2, 4), ("upto", 2, 7))[4:],
            [[3, 6], [5, 6], [6, 6], [1, 6], [3, 6], [0, 6], [2, 6], [6, 6]],
        )

    def test_next(self):
        # A fourth piece here is sold once of 6: 6 - 5 * 2 = -4 of 6.
        self.assertEqual(answers([0, 4, 10, 2, 1, 3, 1, 2, 1, 5, 0, 1, 1, 0, 7, 3, 11, 0, 3])[-4:], [3, 0, -2, 3])

    def test_next_there_and_of_both(self):
        self.assertEqual(
            ask(*DAY, ("next", 0, 0), ("next", 1, 0), ("next", 1, 7), ("next", 2, 4), ("next", 2, 3))[4:],
            [[0, 2, 1], [0, 14, 3], [0, -2, 1], [0, 10, 3], [0, 6, 1]],
        )

    def test_known(self):
        # Wanted here are 11 of 6, at 6 each: 11; with the best number it is 6.
        self.assertEqual(answers([0, 4, 10, 2, 1, 3, 1, 2, 1, 5, 0, 1, 1, 0, 7, 3, 12, 0])[-6:], [5, 0, 11, 1, 5, 1])

    def test_known_there_and_of_both(self):
        self.assertEqual(last(*DAY, ("known", 1)), [0, 23, 1, 19, 3])
        self.assertEqual(last(*DAY, ("known", 2)), [0, 34, 1, 8, 3])

    def test_dear(self):
        # At 2 what is left costs nothing: as many as are ever wanted here.
        self.assertEqual(answers([0, 4, 10, 2, 1, 3, 1, 2, 1, 5, 0, 1, 1, 0, 7, 3, 16, 0, 2])[-3:], [2, 5, 3])
        self.assertEqual(last(*DAY, ("dear", 0, 9)), [0, 3])
        self.assertEqual(last(*DAY, ("dear", 0, 4)), [3, 3])

    def test_dear_there_and_of_both(self):
        # At 9 it is enough that no more is wanted 1 time of 8.
        self.assertEqual(last(*DAY, ("dear", 1, 9)), [0, 7])
        self.assertEqual(last(*DAY, ("dear", 2, 9)), [4, 7])

    def test_dear_is_by_the_prices_that_hold(self):
        self.assertEqual(last(*DAY, ("prices", 9, 10, 2), ("dear", 0, 4)), [3, 0])
        self.assertEqual(last(*DAY, ("prices", 9, 20, 9), ("dear", 0, 19)), [0, 5])

    def test_dear_changes_no_price(self):
        shown = (("state",), ("best", 0), ("gain", 2, 6), ("share",), ("prices", 4, 10, 2))
        for of in (0, 1, 2):
            for cost in (2, 4, 9, 10):
                with self.subTest(of=of, cost=cost):
                    self.assertEqual(
                        ask(*DAY, ("dear", of, cost), *shown)[5:],
                        [[6, 3, 4, 10, 2], [3, 6, 1], [0, 88, 3], [0, 3, 4], [0, 4, 10, 2]],
                    )

    def test_mean(self):
        self.assertEqual(answers([0, 4, 10, 2, 1, 3, 1, 2, 1, 5, 0, 1, 1, 0, 7, 3, 19, 0])[-4:], [3, 0, 11, 6])

    def test_mean_there_and_of_both(self):
        self.assertEqual(last(*DAY, ("mean", 1)), [0, 23, 6])
        self.assertEqual(last(*DAY, ("mean", 2)), [0, 17, 3])

    def test_fractions_have_nothing_in_common(self):
        self.assertEqual(last(BEGUN, ("chance", 6, 0, 500), ("chance", 0, 0, 1000), ("sold", 0, 6)), [0, 2, 1, 4, 1])
        self.assertEqual(last(BEGUN, ("chance", 1, 0, 1000), ("chance", 0, 0, 600), ("sold", 0, 1)), [0, 5, 8, 3, 8])

    def test_a_fraction_of_nothing_is_0_and_1(self):
        self.assertEqual(last(*DAY, ("sold", 0, 0)), [0, 0, 1, 0, 1])
        self.assertEqual(last(*DAY, ("lost", 0, 5)), [0, 0, 1])
        self.assertEqual(last(("begin", 7, 7, 3), ("share",)), [0, 0, 1])

    def test_asking_changes_nothing(self):
        asked = (("gain", 0, 4), ("best", 1), ("critical", 2), ("share",), ("sold", 0, 4), ("lost", 1, 2),
                 ("upto", 2, 5), ("next", 0, 3), ("known", 1), ("pool",), ("fair", 4, 2), ("lend", 4, 2),
                 ("dear", 2, 9), ("stronger",), ("chances",), ("mean", 2), ("state",))
        told = ask(*DAY, *asked, *asked)
        self.assertEqual(told[4:21], told[21:])


class TwoStores(unittest.TestCase):

    def test_pool(self):
        # 94 of 3 by 7 together; by 3 here 6, by 7 there 50 of 3.
        self.assertEqual(
            answers([0, 4, 10, 2, 1, 3, 1, 2, 1, 5, 0, 1, 1, 0, 7, 3, 13])[-6:], [5, 7, 3, 7, 26, 3]
        )

    def test_pool_the_other_way_round(self):
        self.assertEqual(
            last(BEGUN, ("chance", 1, 3, 2), ("chance", 0, 5, 1), ("chance", 7, 0, 3), ("pool",)), [7, 7, 3, 26, 3]
        )

    def test_fair(self):
        # 16 of 3 by 4 here; by 2 there 4 twice, -4 once, 12 three times: 40 of 6.
        self.assertEqual(answers([0, 4, 10, 2, 1, 3, 1, 2, 1, 5, 0, 1, 1, 0, 7, 3, 14, 4, 2])[-4:], [3, 0, 12, 1])

    def test_fair_is_first_here_then_there(self):
        self.assertEqual(last(*DAY, ("fair", 2, 4)), [0, 44, 3])
        self.assertEqual(last(*DAY, ("fair", 4, 0)), [0, 16, 3])
        self.assertEqual(last(*DAY, ("fair", 0, 4)), [0, 32, 3])
        self.assertEqual(last(*DAY, ("fair", 0, 0)), [0, 0, 1])

    def test_lend(self):
        # 6 together: 88 of 3, and sold are 4 twice, 5 once, 6 three times: 31 of 6.
        self.assertEqual(
            answers([0, 4, 10, 2, 1, 3, 1, 2, 1, 5, 0, 1, 1, 0, 7, 3, 15, 4, 2])[-6:], [5, 0, 88, 3, 31, 6]
        )

    def test_lend_asks_only_for_both_together(self):
        for here in range(7):
            self.assertEqual(last(*DAY, ("lend", here, 6 - here)), [0, 88, 3, 31, 6])
        self.assertEqual(last(*DAY, ("lend", 0, 0)), [0, 0, 1, 0, 1])

    def test_stronger(self):
        # No more than 0 is wanted here 3 times, there once; up to no number is it more often there.
        self.assertEqual(answers([0, 4, 10, 2, 1, 3, 1, 2, 1, 5, 0, 1, 1, 0, 7, 3, 17])[-3:], [2, 0, 1])

    def test_stronger_here(self):
        self.assertEqual(
            last(BEGUN, ("chance", 1, 3, 2), ("chance", 0, 5, 1), ("chance", 7, 0, 3), ("stronger",)), [1, 0]
        )
        self.assertEqual(last(BEGUN, ("chance", 1, 0, 5), ("stronger",)), [1, 0])

    def test_stronger_of_neither(self):
        self.assertEqual(last(BEGUN, ("chance", 3, 0, 1), ("chance", 3, 9, 1), ("stronger",)), [0, 0])

    def test_stronger_of_alike_ones(self):
        # 2 is wanted three times and 9 once, in both, though never at once.
        self.assertEqual(
            last(BEGUN, ("chance", 2, 9, 1), ("chance", 9, 2, 1), ("chance", 2, 2, 2), ("stronger",)), [1, 1]
        )

    def test_stronger_goes_by_how_often_rows_come(self):
        rows = (("chance", 1, 2, 5), ("chance", 2, 1, 4))
        self.assertEqual(last(BEGUN, *rows, ("stronger",)), [0, 1])
        self.assertEqual(last(BEGUN, *rows, ("chance", 2, 1, 1), ("stronger",)), [1, 1])
        self.assertEqual(last(BEGUN, *rows, ("chance", 2, 1, 2), ("stronger",)), [1, 0])

    def test_stronger_looks_at_the_first_and_the_last_number(self):
        self.assertEqual(last(BEGUN, ("chance", 0, 1, 1), ("chance", 30, 30, 9), ("stronger",)), [0, 1])
        self.assertEqual(last(BEGUN, ("chance", 29, 30, 1), ("chance", 0, 0, 9), ("stronger",)), [0, 1])


class Showing(unittest.TestCase):

    def test_chances(self):
        self.assertEqual(
            answers([0, 4, 10, 2, 1, 3, 1, 2, 1, 5, 0, 1, 1, 0, 7, 3, 18])[-11:], [10, 3, 3, 1, 2, 5, 0, 1, 0, 7, 3]
        )

    def test_chances_before_any_is_told_and_behind_each(self):
        self.assertEqual(
            ask(BEGUN, ("chances",), ("chance", 3, 1, 2), ("chances",), ("chance", 0, 0, 9), ("chances",)),
            [[0], [0], [2], [1, 3, 1, 2], [11], [2, 3, 1, 2, 0, 0, 9]],
        )

    def test_chances_as_they_were_told_whatever_goes_and_comes(self):
        self.assertEqual(
            ask(*DAY, ("never", 3, 1), ("chances",), ("chance", 3, 1, 7), ("chances",), BEGUN, ("chances",))[4:],
            [[4], [2, 5, 0, 1, 0, 7, 3], [11], [3, 5, 0, 1, 0, 7, 3, 3, 1, 7], [0], [0]],
        )

    def test_state(self):
        self.assertEqual(
            answers([0, 4, 10, 2, 1, 3, 1, 2, 1, 5, 0, 1, 1, 0, 7, 3, 20])[-6:], [5, 6, 3, 4, 10, 2]
        )

    def test_state_without_rows(self):
        self.assertEqual(answers([0, 4, 10, 2, 20]), [1, 0, 5, 0, 0, 4, 10, 2])
        self.assertEqual(last(BEGUN, ("chance", 3, 1, 2), ("never", 3, 1), ("state",)), [0, 0, 4, 10, 2])

    def test_state_goes_with_what_is_told(self):
        self.assertEqual(
            ask(*DAY, ("prices", 5, 9, 1), ("state",), ("never", 0, 7), ("state",), ("begin", 1, 2, 0), ("state",))[4:],
            [[0, 4, 10, 2], [6, 3, 5, 9, 1], [3], [3, 2, 5, 9, 1], [0], [0, 0, 1, 2, 0]],
        )

    def test_mean_before_and_after_chances_are_told(self):
        self.assertEqual(
            ask(BEGUN, ("mean", 0), ("chance", 3, 1, 2), ("mean", 0), ("never", 3, 1), ("mean", 0)),
            [[0], [-6], [2], [0, 3, 1], [0], [-6]],
        )


if __name__ == "__main__":
    unittest.main()
