"""What holds, over many lists of calls that are made anew, the same each time."""

import random
import unittest
from fractions import Fraction

from linehelp import FIRST_STAGE, LARGEST, SIZES, ask, told


def some_prices(source):
    """Prices as told, often at an edge."""
    price = source.choice((1, 2, 3, 10, 12, 100, 999, 1000))
    back = source.choice((0, 0, source.randrange(price), price - 1))
    cost = source.choice((back, price, source.randint(back, price), source.randint(back, price)))
    return (cost, price, back)


def some_row(source):
    most = source.choice((0, 2, 6, 30))
    often = source.choice((1, 1, 2, 3, source.randint(1, 10), source.randint(1, 1000)))
    return (source.randint(0, most), source.randint(0, most), often)


def some_day(source):
    count = source.choice((1, 1, 2, 3, 5, 30))
    return [("begin",) + some_prices(source)] + [("chance",) + some_row(source) for _ in range(count)]


def some_number(source, most):
    return source.choice((0, 1, most, most + 1, LARGEST, source.randint(0, most), source.randint(0, most)))


def some_call(source):
    name = source.choice(FIRST_STAGE + ("chance",) * 6)
    if name in ("begin", "prices"):
        if source.randrange(3):
            return (name,) + some_prices(source)
        return (name,) + tuple(some_number(source, 1000) for _ in range(3))
    if name == "chance" and source.randrange(4):
        return (name,) + some_row(source)
    if name == "chance":
        return (name, some_number(source, 30), some_number(source, 30), some_number(source, 1000))
    if name == "never":
        return (name, source.randint(0, 2), source.randint(0, 2))
    return (name, source.choice((0, 1, 2, 2, 3)), some_number(source, 60))[:1 + SIZES[name]]


class ByTheWords(unittest.TestCase):

    def test_many_lists_answer_as_the_words_tell(self):
        source = random.Random(1)
        for _ in range(300):
            calls = [some_call(source) for _ in range(source.randint(1, 60))]
            if source.randrange(8):
                calls = some_day(source) + calls
            self.assertEqual(ask(*calls), told(*calls), calls)


class Holds(unittest.TestCase):

    def days(self, count):
        source = random.Random(2)
        for _ in range(count):
            yield some_day(source)

    def behind(self, day, calls):
        return ask(*day, *calls)[len(day):]

    def test_by_no_number_more_than_by_the_best_and_by_none_smaller_as_much(self):
        for day in self.days(150):
            for of in (0, 1, 2):
                parts = self.behind(day, [("best", of)] + [("gain", of, q) for q in range(61)])
                best = parts[0][0]
                gains = [Fraction(part[1], part[2]) for part in parts[1:]]
                self.assertEqual(gains[best], Fraction(parts[0][1], parts[0][2]))
                self.assertTrue(all(each <= gains[best] for each in gains), day)
                self.assertTrue(all(each < gains[best] for each in gains[:best]), day)

    def test_the_best_is_the_critical_number(self):
        for day in self.days(600):
            parts = self.behind(day, [("best", 0), ("critical", 0), ("best", 1), ("critical", 1),
                                      ("best", 2), ("critical", 2)])
            for best, critical in zip(parts[::2], parts[1::2]):
                self.assertEqual(best[0], critical[0], day)

    def test_the_critical_number_is_the_least_whose_share_is_met(self):
        for day in self.days(150):
            for of in (0, 1, 2):
                parts = self.behind(day, [("share",), ("critical", of)] + [("upto", of, q) for q in range(61)])
                share = Fraction(parts[0][1], parts[0][2])
                number = parts[1][0]
                self.assertEqual(parts[1][1:], parts[2 + number])
                self.assertGreaterEqual(Fraction(parts[1][1], parts[1][2]), share)
                for often, whole in parts[2:2 + number]:
                    self.assertLess(Fraction(often, whole), share)

    def test_sold_and_left_are_what_is_bought_and_sold_and_lost_what_is_wanted(self):
        for day in self.days(100):
            whole = sum(row[3] for row in day[1:])
            for of in (0, 1, 2):
                wanted = Fraction(sum((row[1], row[2], row[1] + row[2])[of] * row[3] for row in day[1:]), whole)
                sold = self.behind(day, [("sold", of, q) for q in range(61)])
                lost = self.behind(day, [("lost", of, q) for q in range(61)])
                for number in range(61):
                    a_sold = Fraction(sold[number][1], sold[number][2])
                    self.assertEqual(a_sold + Fraction(sold[number][3], sold[number][4]), number)
                    self.assertEqual(a_sold + Fraction(lost[number][1], lost[number][2]), wanted)

    def test_the_gain_is_the_price_of_the_sold_and_back_of_the_left_less_the_cost(self):
        for day in self.days(100):
            cost, price, back = day[0][1:]
            for of, number in ((0, 0), (0, 7), (1, 30), (2, 31), (2, 60)):
                gain, sold = self.behind(day, [("gain", of, number), ("sold", of, number)])
                expected = price * Fraction(sold[1], sold[2]) + back * Fraction(sold[3], sold[4]) - cost * number
                self.assertEqual(gain, [0, expected.numerator, expected.denominator])

    def test_what_is_refused_changes_nothing(self):
        source = random.Random(3)
        for _ in range(200):
            calls = some_day(source) + [some_call(source) for _ in range(60)]
            parts = ask(*calls)
            taken = [call for call, part in zip(calls, parts) if part[0] >= 0]
            self.assertEqual(ask(*taken), [part for part in parts if part[0] >= 0])
            self.assertTrue(all(len(part) == 1 for part in parts if part[0] < 0))


if __name__ == "__main__":
    unittest.main()
