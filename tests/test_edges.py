"""The edges of the ranges, and the cases in which it usually breaks."""

import unittest

from linehelp import LARGEST, ask, last, told

BEGUN = ("begin", 4, 10, 2)


class Ranges(unittest.TestCase):

    def both(self, *prices):
        """What begin and prices answer first; they take the same numbers."""
        by_begin = last(("begin",) + prices)
        by_prices = last(BEGUN, ("prices",) + prices)
        if by_begin == [0]:
            self.assertEqual(by_prices, [0, 4, 10, 2])
        else:
            self.assertEqual(by_prices, by_begin)
        return by_begin[0]

    def test_price_1000_and_1001(self):
        self.assertEqual(self.both(4, 1000, 2), 0)
        self.assertEqual(self.both(4, 1001, 2), -22)
        self.assertEqual(self.both(1000, 1000, 999), 0)
        self.assertEqual(self.both(1000, 1001, 999), -22)

    def test_back_just_the_cost(self):
        self.assertEqual(self.both(4, 10, 4), 0)
        self.assertEqual(self.both(4, 10, 5), -22)
        self.assertEqual(self.both(0, 1, 0), 0)

    def test_cost_just_the_price(self):
        self.assertEqual(self.both(10, 10, 2), 0)
        self.assertEqual(self.both(11, 10, 2), -22)

    def test_price_just_back(self):
        self.assertEqual(self.both(10, 10, 10), -22)
        self.assertEqual(self.both(10, 10, 9), 0)
        self.assertEqual(self.both(0, 0, 0), -22)
        self.assertEqual(self.both(0, 1, 0), 0)
        self.assertEqual(self.both(1, 1, 0), 0)

    def test_prices_of_4294967295(self):
        for numbers in ((LARGEST, 10, 2), (4, LARGEST, 2), (4, 10, LARGEST), (LARGEST, LARGEST, 2),
                        (LARGEST, LARGEST, LARGEST)):
            with self.subTest(numbers=numbers):
                self.assertEqual(self.both(*numbers), -22)

    def test_wanted_30_and_31(self):
        self.assertEqual(last(BEGUN, ("chance", 30, 30, 5)), [5])
        self.assertEqual(last(BEGUN, ("chance", 31, 30, 5)), [-22])
        self.assertEqual(last(BEGUN, ("chance", 30, 31, 5)), [-22])
        self.assertEqual(last(BEGUN, ("chance", 0, 0, 5)), [5])

    def test_how_often_0_1_1000_1001(self):
        self.assertEqual(
            ask(BEGUN, ("chance", 1, 1, 0), ("chance", 1, 1, 1), ("chance", 1, 1, 1000), ("chance", 1, 1, 1001)),
            [[0], [-22], [1], [1001], [-22]],
        )

    def test_the_30th_row_and_the_one_after_it(self):
        rows = [("chance", 1, 2, 1000)] * 31
        self.assertEqual(ask(BEGUN, *rows), [[0]] + [[1000 * k] for k in range(1, 31)] + [[-28]])

    def test_60_and_61_bought(self):
        day = (BEGUN, ("chance", 30, 29, 1))
        self.assertEqual(last(*day, ("gain", 2, 60)), [0, 352, 1])
        self.assertEqual(last(*day, ("sold", 2, 60)), [0, 59, 1, 1, 1])
        self.assertEqual(last(*day, ("lost", 2, 60)), [0, 0, 1])
        self.assertEqual(last(*day, ("upto", 2, 60)), [1, 1])
        for name in ("gain", "sold", "lost", "upto"):
            with self.subTest(name=name):
                self.assertEqual(last(*day, (name, 2, 61)), [-22])

    def test_next_of_59_and_60(self):
        day = (BEGUN, ("chance", 30, 30, 1), ("chance", 30, 29, 2))
        self.assertEqual(last(*day, ("next", 2, 58)), [0, 6, 1])
        self.assertEqual(last(*day, ("next", 2, 59)), [0, 2, 3])
        self.assertEqual(last(*day, ("next", 0, 59)), [0, -2, 1])
        for of in (0, 1, 2):
            self.assertEqual(last(*day, ("next", of, 60)), [-22])
            self.assertEqual(last(*day, ("next", of, LARGEST)), [-22])

    def test_fair_and_lend_of_60_and_61(self):
        # Here 30 are sold, there 20: 60 bought gain 300 + 60 - 240 and 200 + 80 - 240.
        day = (BEGUN, ("chance", 30, 20, 7))
        self.assertEqual(
            ask(*day, ("fair", 60, 0), ("fair", 0, 60), ("fair", 60, 60))[2:], [[0, 120, 1], [0, 40, 1], [0, 160, 1]]
        )
        self.assertEqual(
            ask(*day, ("lend", 60, 0), ("lend", 0, 60), ("lend", 60, 60), ("lend", 1, 60))[2:],
            [[0, 280, 1, 50, 1], [0, 280, 1, 50, 1], [0, 160, 1, 50, 1], [0, 278, 1, 50, 1]],
        )
        for name in ("fair", "lend"):
            for numbers in ((61, 0), (0, 61), (61, 60), (60, 61), (61, 61), (LARGEST, 0), (0, LARGEST)):
                with self.subTest(name=name, numbers=numbers):
                    self.assertEqual(last(*day, (name,) + numbers), [-22])

    def test_dear_at_the_ends_of_the_cost(self):
        day = (BEGUN, ("chance", 3, 1, 2), ("chance", 9, 4, 1))
        self.assertEqual(last(*day, ("dear", 0, 10)), [0, 9])
        self.assertEqual(last(*day, ("dear", 0, 11)), [-22])
        self.assertEqual(last(*day, ("dear", 0, 2)), [9, 9])
        self.assertEqual(last(*day, ("dear", 0, 1)), [-22])
        self.assertEqual(last(*day, ("dear", 0, 0)), [-22])
        self.assertEqual(last(*day, ("dear", 0, LARGEST)), [-22])

    def test_dear_at_the_ends_of_all_prices(self):
        row = ("chance", 3, 1, 2)
        self.assertEqual(
            ask(("begin", 0, 1, 0), row, ("dear", 0, 0), ("dear", 0, 1), ("dear", 0, 2))[2:], [[3, 3], [0, 3], [-22]]
        )
        self.assertEqual(
            ask(("begin", 1000, 1000, 999), row, ("dear", 1, 998), ("dear", 1, 999), ("dear", 1, 1000),
                ("dear", 1, 1001))[2:],
            [[-22], [1, 0], [0, 0], [-22]],
        )

    def test_of_2_and_of_3_where_it_is_asked_of_that_alone_or_of_a_cost(self):
        day = (BEGUN, ("chance", 3, 1, 2))
        self.assertEqual(
            ask(*day, ("next", 2, 3), ("known", 2), ("dear", 2, 10), ("mean", 2))[2:],
            [[0, 6, 1], [0, 24, 1, 0, 1], [0, 4], [0, 4, 1]],
        )
        for call in (("next", 3, 3), ("known", 3), ("dear", 3, 10), ("mean", 3)):
            with self.subTest(call=call):
                self.assertEqual(last(*day, call), [-22])

    def test_chances_of_none_and_of_30_rows(self):
        rows = [(k, 30 - k, 1000 - k) for k in range(30)]
        day = [BEGUN] + [("chance",) + row for row in rows]
        shown = [30] + [number for row in rows for number in row]
        self.assertEqual(last(BEGUN, ("chances",)), [0])
        self.assertEqual(last(*day, ("chances",)), shown)
        self.assertEqual(last(*day, ("chance", 1, 1, 1), ("chances",)), shown)
        self.assertEqual(last(*day, ("state",)), [sum(row[2] for row in rows), 30, 4, 10, 2])

    def test_of_2_and_of_3(self):
        day = (BEGUN, ("chance", 3, 1, 2))
        self.assertEqual(last(*day, ("gain", 2, 4)), [0, 24, 1])
        self.assertEqual(last(*day, ("sold", 2, 4)), [0, 4, 1, 0, 1])
        self.assertEqual(last(*day, ("lost", 2, 3)), [0, 1, 1])
        self.assertEqual(last(*day, ("upto", 2, 4)), [2, 2])
        self.assertEqual(last(*day, ("best", 2)), [4, 24, 1])
        self.assertEqual(last(*day, ("critical", 2)), [4, 2, 2])
        for call in (("gain", 3, 4), ("sold", 3, 4), ("lost", 3, 3), ("upto", 3, 4), ("best", 3), ("critical", 3)):
            with self.subTest(call=call):
                self.assertEqual(last(*day, call), [-22])

    def test_the_largest_numbers_there_are(self):
        rows = [("chance", 30, 30, 1000)] * 30
        self.assertEqual(
            ask(("begin", 0, 1000, 0), *rows, ("gain", 2, 60), ("best", 2), ("critical", 2), ("upto", 2, 59))[31:],
            [[0, 60000, 1], [60, 60000, 1], [60, 30000, 30000], [0, 30000]],
        )
        self.assertEqual(
            ask(("begin", 0, 1000, 0), *rows, ("next", 2, 59), ("known", 2), ("pool",), ("fair", 60, 60),
                ("lend", 60, 60), ("dear", 2, 1000), ("stronger",), ("mean", 2), ("state",))[31:],
            [[0, 1000, 1], [0, 60000, 1, 0, 1], [60, 30, 30, 0, 1], [0, 60000, 1], [0, 60000, 1, 60, 1], [0, 60],
             [1, 1], [0, 60, 1], [30000, 30, 0, 1000, 0]],
        )


class WhereItUsuallyBreaks(unittest.TestCase):

    def check(self, calls, expected):
        """The answers behind the begin and the chances, by hand and by the words."""
        self.assertEqual(ask(*calls)[-len(expected):], expected)
        self.assertEqual(ask(*calls), told(*calls))

    def test_a_cost_that_is_just_what_comes_back(self):
        # What is left costs nothing: the most that is ever wanted is best, and no more than that.
        # Here 3006 of 1000 are sold, together 4009 of 1000, at 8 each.
        self.check(
            [("begin", 2, 10, 2), ("chance", 3, 1, 999), ("chance", 9, 4, 1),
             ("share",), ("best", 0), ("critical", 0), ("best", 2), ("gain", 0, 60)],
            [[0, 1, 1], [9, 3006, 125], [9, 1000, 1000], [13, 4009, 125], [0, 3006, 125]],
        )

    def test_a_cost_that_is_just_what_comes_back_of_the_other_calls(self):
        self.check(
            [("begin", 2, 10, 2), ("chance", 3, 1, 999), ("chance", 9, 4, 1),
             ("next", 0, 8), ("next", 0, 9), ("known", 0), ("pool",), ("fair", 60, 60), ("lend", 60, 60),
             ("dear", 0, 10), ("dear", 0, 2), ("dear", 0, 1)],
            [[0, 1, 125], [0, 0, 1], [0, 3006, 125, 0, 1], [13, 9, 4, 0, 1], [0, 4009, 125],
             [0, 4009, 125, 4009, 1000], [0, 9], [9, 9], [-22]],
        )

    def test_a_price_that_is_just_the_cost_of_the_other_calls(self):
        self.check(
            [("begin", 10, 10, 2), ("chance", 3, 1, 1), ("chance", 9, 4, 1),
             ("next", 0, 2), ("next", 0, 3), ("known", 0), ("pool",), ("fair", 4, 1), ("lend", 4, 1),
             ("dear", 0, 10), ("dear", 0, 2), ("dear", 0, 11)],
            [[0, 0, 1], [0, -4, 1], [0, 0, 1, 0, 1], [0, 0, 0, 0, 1], [0, -4, 1], [0, -4, 1, 9, 2],
             [0, 0], [9, 0], [-22]],
        )

    def test_nothing_wanted_ever_of_the_other_calls(self):
        self.check(
            [BEGUN, ("chance", 0, 0, 7), ("next", 2, 0), ("known", 1), ("pool",), ("fair", 1, 2), ("lend", 1, 2),
             ("dear", 0, 2), ("stronger",), ("chances",), ("mean", 2), ("state",)],
            [[0, -2, 1], [0, 0, 1, 0, 1], [0, 0, 0, 0, 1], [0, -6, 1], [0, -6, 1, 0, 1],
             [0, 0], [1, 1], [1, 0, 0, 7], [0, 0, 1], [7, 1, 4, 10, 2]],
        )

    def test_one_row_of_the_other_calls(self):
        self.check(
            [BEGUN, ("chance", 5, 8, 3), ("next", 0, 4), ("next", 0, 5), ("known", 2), ("pool",), ("fair", 6, 7),
             ("lend", 6, 7), ("dear", 0, 10), ("stronger",), ("chances",), ("mean", 1), ("state",)],
            [[0, 6, 1], [0, -2, 1], [0, 78, 1, 0, 1], [13, 5, 8, 0, 1], [0, 70, 1],
             [0, 78, 1, 13, 1], [0, 5], [0, 1], [1, 5, 8, 3], [0, 8, 1], [3, 1, 4, 10, 2]],
        )

    def test_the_same_row_twice_of_the_other_calls(self):
        self.check(
            [BEGUN, ("chance", 5, 8, 3), ("chance", 5, 8, 3), ("chance", 0, 1, 2), ("chances",), ("state",),
             ("mean", 0), ("next", 0, 0), ("pool",), ("stronger",), ("never", 5, 8), ("chances",), ("state",)],
            [[3, 5, 8, 3, 5, 8, 3, 0, 1, 2], [8, 3, 4, 10, 2], [0, 15, 4], [0, 4, 1], [13, 5, 8, 0, 1], [0, 1],
             [2], [1, 0, 1, 2], [2, 1, 4, 10, 2]],
        )

    def test_a_critical_share_that_is_just_met_of_the_other_calls(self):
        self.check(
            [BEGUN, ("chance", 2, 0, 3), ("chance", 9, 0, 1), ("next", 0, 1), ("next", 0, 2), ("next", 0, 8),
             ("next", 0, 9), ("dear", 0, 3), ("dear", 0, 4), ("dear", 0, 5), ("known", 0), ("pool",)],
            [[0, 6, 1], [0, 0, 1], [0, 0, 1], [0, -2, 1], [9, 2], [2, 2], [2, 2], [0, 45, 2, 21, 2],
             [2, 2, 0, 0, 1]],
        )
        self.check([("begin", 3, 10, 2), ("chance", 2, 0, 3), ("chance", 9, 0, 1), ("dear", 0, 4)], [[2, 9]])

    def test_wanted_here_when_nothing_is_there_of_the_other_calls(self):
        self.check(
            [BEGUN, ("chance", 8, 0, 1), ("chance", 0, 8, 1), ("pool",), ("fair", 8, 8), ("lend", 8, 8),
             ("fair", 4, 4), ("lend", 4, 4), ("known", 0), ("known", 2), ("stronger",), ("mean", 0), ("mean", 2),
             ("next", 0, 7), ("next", 2, 7), ("next", 2, 8)],
            [[8, 8, 8, 16, 1], [0, 32, 1], [0, 32, 1, 8, 1],
             [0, 16, 1], [0, 48, 1, 8, 1], [0, 24, 1, 8, 1], [0, 48, 1, 0, 1], [1, 1], [0, 4, 1], [0, 8, 1],
             [0, 2, 1], [0, 6, 1], [0, -2, 1]],
        )

    def test_60_bought_of_the_other_calls(self):
        self.check(
            [BEGUN, ("chance", 30, 30, 1), ("chance", 0, 0, 1), ("next", 2, 59), ("next", 0, 59), ("next", 2, 60),
             ("fair", 60, 60), ("fair", 60, 0), ("lend", 60, 60), ("lend", 60, 0), ("dear", 2, 2), ("pool",)],
            [[0, 2, 1], [0, -2, 1], [-22], [0, 0, 1], [0, 0, 1], [0, 0, 1, 30, 1], [0, 120, 1, 30, 1], [60, 60],
             [60, 30, 30, 0, 1]],
        )

    def test_a_gain_below_0_of_the_other_calls(self):
        self.check(
            [("begin", 9, 10, 0), ("chance", 1, 0, 2), ("chance", 0, 0, 1), ("next", 0, 0), ("fair", 1, 1),
             ("lend", 1, 1), ("known", 0), ("dear", 0, 0), ("pool",)],
            [[0, -7, 3], [0, -34, 3], [0, -34, 3, 2, 3], [0, 2, 3, 2, 3], [1, 0], [0, 0, 0, 0, 1]],
        )

    def test_a_price_that_is_just_the_cost(self):
        # Nothing is ever gained: none is best, though as much is looked for up to what is always wanted.
        self.check(
            [("begin", 10, 10, 2), ("chance", 3, 1, 1), ("chance", 9, 4, 1),
             ("share",), ("best", 0), ("critical", 0), ("gain", 0, 3), ("gain", 0, 4), ("upto", 0, 0)],
            [[0, 0, 1], [0, 0, 1], [0, 0, 2], [0, 0, 1], [0, -4, 1], [0, 2]],
        )

    def test_nothing_wanted_ever(self):
        self.check(
            [BEGUN, ("chance", 0, 0, 7), ("best", 0), ("best", 2), ("critical", 1), ("gain", 2, 5),
             ("sold", 0, 5), ("lost", 0, 0), ("upto", 2, 0)],
            [[0, 0, 1], [0, 0, 1], [0, 7, 7], [0, -10, 1], [0, 0, 1, 5, 1], [0, 0, 1], [7, 7]],
        )

    def test_nothing_wanted_ever_where_all_comes_back(self):
        self.check(
            [("begin", 2, 10, 2), ("chance", 0, 0, 7), ("best", 2), ("critical", 2), ("gain", 2, 60)],
            [[0, 0, 1], [0, 7, 7], [0, 0, 1]],
        )

    def test_one_row(self):
        self.check(
            [BEGUN, ("chance", 5, 8, 3), ("best", 0), ("best", 1), ("best", 2), ("critical", 0), ("critical", 2),
             ("upto", 0, 4), ("upto", 0, 5), ("sold", 1, 9), ("lost", 1, 7)],
            [[5, 30, 1], [8, 48, 1], [13, 78, 1], [5, 3, 3], [13, 3, 3], [0, 3], [3, 3], [0, 8, 1, 1, 1], [0, 1, 1]],
        )

    def test_the_same_row_twice(self):
        self.check(
            [BEGUN, ("chance", 5, 8, 3), ("chance", 5, 8, 3), ("chance", 0, 1, 2), ("upto", 0, 4), ("upto", 0, 5),
             ("sold", 0, 5), ("never", 5, 8), ("upto", 0, 5), ("never", 5, 8)],
            [[2, 8], [8, 8], [0, 15, 4, 5, 4], [2], [2, 2], [-6]],
        )

    def test_a_critical_share_that_is_just_met(self):
        # 6 of 8 is asked for and 3 of 4 come: 2 is enough, though as much is looked for up to 9.
        self.check(
            [BEGUN, ("chance", 2, 0, 3), ("chance", 9, 0, 1), ("critical", 0), ("best", 0), ("gain", 0, 3),
             ("gain", 0, 9), ("gain", 0, 10)],
            [[2, 3, 4], [2, 12, 1], [0, 12, 1], [0, 12, 1], [0, 10, 1]],
        )

    def test_a_critical_share_that_is_missed_by_one(self):
        self.check(
            [BEGUN, ("chance", 2, 0, 749), ("chance", 9, 0, 251), ("critical", 0), ("best", 0)],
            [[9, 1000, 1000], [9, 1507, 125]],
        )
        self.check(
            [BEGUN, ("chance", 2, 0, 751), ("chance", 9, 0, 249), ("critical", 0), ("best", 0)],
            [[2, 751, 1000], [2, 12, 1]],
        )

    def test_wanted_here_when_nothing_is_there_and_the_other_way_round(self):
        # Each store by itself is a gamble; together just 8 are always wanted.
        self.check(
            [BEGUN, ("chance", 8, 0, 1), ("chance", 0, 8, 1), ("best", 0), ("best", 1), ("best", 2),
             ("critical", 0), ("critical", 2), ("upto", 0, 0), ("upto", 1, 0), ("upto", 2, 7), ("lost", 2, 8),
             ("sold", 0, 8)],
            [[8, 16, 1], [8, 16, 1], [8, 48, 1], [8, 2, 2], [8, 2, 2], [1, 2], [1, 2], [0, 2], [0, 0, 1],
             [0, 4, 1, 4, 1]],
        )

    def test_60_bought(self):
        self.check(
            [BEGUN, ("chance", 30, 30, 1), ("chance", 0, 0, 1), ("gain", 0, 60), ("gain", 2, 60), ("sold", 2, 60),
             ("lost", 2, 60), ("lost", 2, 59), ("upto", 2, 60), ("upto", 2, 59), ("best", 2), ("critical", 2)],
            [[0, 0, 1], [0, 120, 1], [0, 30, 1, 30, 1], [0, 0, 1], [0, 1, 2], [2, 2], [1, 2], [60, 120, 1],
             [60, 2, 2]],
        )

    def test_a_gain_below_0(self):
        self.check(
            [("begin", 9, 10, 0), ("chance", 1, 0, 2), ("chance", 0, 0, 1), ("gain", 0, 1), ("gain", 0, 5),
             ("gain", 1, 60), ("best", 0)],
            [[0, -7, 3], [0, -115, 3], [0, -540, 1], [0, 0, 1]],
        )
        self.check([("begin", 9, 10, 0), ("chance", 1, 0, 2), ("chance", 0, 0, 2), ("gain", 0, 1)], [[0, -4, 1]])


if __name__ == "__main__":
    unittest.main()
