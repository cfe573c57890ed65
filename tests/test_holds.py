"""What holds, over many lists of calls that are made anew, the same each time."""

import random
import unittest
from fractions import Fraction

from linehelp import LARGEST, NAMES, SIZES, ask, told


def some_prices(source):
    """Prices as told, often at an edge."""
    price = source.choice((1, 2, 3, 10, 12, 100, 999, 1000))
    back = source.choice((0, 0, source.randrange(price), price - 1))
    cost = source.choice((back, price, source.randint(back, price), source.randint(back, price)))
    return (cost, price, back)


def some_row(source):
    most = source.choice((0, 2, 6, 30))
    often = source.choice((1, 1, 2, 3, source.randint(1, 10), source.randint(1, 1000)))
    return (source.randint(0, most), source.randint(0, most), often)


def some_day(source):
    count = source.choice((1, 1, 2, 3, 5, 30))
    return [("begin",) + some_prices(source)] + [("chance",) + some_row(source) for _ in range(count)]


def some_number(source, most):
    return source.choice((0, 1, most, most + 1, LARGEST, source.randint(0, most), source.randint(0, most)))


def some_call(source):
    return call_of(source, source.choice(NAMES + ("chance",) * 6))


def call_of(source, name):
    if name in ("begin", "prices"):
        if source.randrange(3):
            return (name,) + some_prices(source)
        return (name,) + tuple(some_number(source, 1000) for _ in range(3))
    if name == "chance" and source.randrange(4):
        return (name,) + some_row(source)
    if name == "chance":
        return (name, some_number(source, 30), some_number(source, 30), some_number(source, 1000))
    if name == "never":
        return (name, source.randint(0, 2), source.randint(0, 2))
    if name in ("fair", "lend"):
        return (name, some_number(source, 60), some_number(source, 60))
    if name == "dear":
        return (name, source.choice((0, 1, 2, 2, 3)), some_number(source, source.choice((1, 2, 10, 100, 1000))))
    most = 59 if name == "next" else 60
    return (name, source.choice((0, 1, 2, 2, 3)), some_number(source, most))[:1 + SIZES[name]]


class ByTheWords(unittest.TestCase):

    def test_many_lists_answer_as_the_words_tell(self):
        source = random.Random(1)
        for _ in range(300):
            calls = [some_call(source) for _ in range(source.randint(1, 60))]
            if source.randrange(8):
                calls = some_day(source) + calls
            self.assertEqual(ask(*calls), told(*calls), calls)

    def test_all_calls_in_any_order(self):
        source = random.Random(4)
        for _ in range(150):
            calls = [call_of(source, name) for name in NAMES * 3]
            source.shuffle(calls)
            if source.randrange(4):
                calls = some_day(source) + calls
            self.assertEqual(ask(*calls), told(*calls), calls)

    def test_all_calls_behind_chances_that_stay(self):
        source = random.Random(5)
        for _ in range(100):
            calls = [call_of(source, name) for name in NAMES[4:] * 3]
            source.shuffle(calls)
            calls = some_day(source) + calls
            self.assertEqual(ask(*calls), told(*calls), calls)


def value(part, place=1):
    """The fraction that lies in an answer from this place on."""
    return Fraction(part[place], part[place + 1])


class Holds(unittest.TestCase):

    def days(self, count):
        source = random.Random(2)
        for _ in range(count):
            yield some_day(source)

    def behind(self, day, calls):
        return ask(*day, *calls)[len(day):]

    def test_by_no_number_more_than_by_the_best_and_by_none_smaller_as_much(self):
        for day in self.days(150):
            for of in (0, 1, 2):
                parts = self.behind(day, [("best", of)] + [("gain", of, q) for q in range(61)])
                best = parts[0][0]
                gains = [Fraction(part[1], part[2]) for part in parts[1:]]
                self.assertEqual(gains[best], Fraction(parts[0][1], parts[0][2]))
                self.assertTrue(all(each <= gains[best] for each in gains), day)
                self.assertTrue(all(each < gains[best] for each in gains[:best]), day)

    def test_the_best_is_the_critical_number(self):
        for day in self.days(600):
            parts = self.behind(day, [("best", 0), ("critical", 0), ("best", 1), ("critical", 1),
                                      ("best", 2), ("critical", 2)])
            for best, critical in zip(parts[::2], parts[1::2]):
                self.assertEqual(best[0], critical[0], day)

    def test_the_critical_number_is_the_least_whose_share_is_met(self):
        for day in self.days(150):
            for of in (0, 1, 2):
                parts = self.behind(day, [("share",), ("critical", of)] + [("upto", of, q) for q in range(61)])
                share = Fraction(parts[0][1], parts[0][2])
                number = parts[1][0]
                self.assertEqual(parts[1][1:], parts[2 + number])
                self.assertGreaterEqual(Fraction(parts[1][1], parts[1][2]), share)
                for often, whole in parts[2:2 + number]:
                    self.assertLess(Fraction(often, whole), share)

    def test_sold_and_left_are_what_is_bought_and_sold_and_lost_what_is_wanted(self):
        for day in self.days(100):
            whole = sum(row[3] for row in day[1:])
            for of in (0, 1, 2):
                wanted = Fraction(sum((row[1], row[2], row[1] + row[2])[of] * row[3] for row in day[1:]), whole)
                sold = self.behind(day, [("sold", of, q) for q in range(61)])
                lost = self.behind(day, [("lost", of, q) for q in range(61)])
                for number in range(61):
                    a_sold = Fraction(sold[number][1], sold[number][2])
                    self.assertEqual(a_sold + Fraction(sold[number][3], sold[number][4]), number)
                    self.assertEqual(a_sold + Fraction(lost[number][1], lost[number][2]), wanted)

    def test_the_gain_is_the_price_of_the_sold_and_back_of_the_left_less_the_cost(self):
        for day in self.days(100):
            cost, price, back = day[0][1:]
            for of, number in ((0, 0), (0, 7), (1, 30), (2, 31), (2, 60)):
                gain, sold = self.behind(day, [("gain", of, number), ("sold", of, number)])
                expected = price * Fraction(sold[1], sold[2]) + back * Fraction(sold[3], sold[4]) - cost * number
                self.assertEqual(gain, [0, expected.numerator, expected.denominator])

    def test_sold_and_lost_is_the_mean(self):
        for day in self.days(60):
            for of in (0, 1, 2):
                mean = value(self.behind(day, [("mean", of)])[0])
                for number in (0, 1, 5, 29, 30, 31, 60):
                    sold, lost = self.behind(day, [("sold", of, number), ("lost", of, number)])
                    self.assertEqual(value(sold) + value(lost), mean, day)

    def test_what_is_wanted_of_both_is_what_is_wanted_here_and_there(self):
        for day in self.days(150):
            here, there, both = self.behind(day, [("mean", 0), ("mean", 1), ("mean", 2)])
            self.assertEqual(value(here) + value(there), value(both), day)

    def test_had_one_known_no_less(self):
        for day in self.days(200):
            cost, price, _ = day[0][1:]
            for of in (0, 1, 2):
                known, best, mean = self.behind(day, [("known", of), ("best", of), ("mean", of)])
                self.assertGreaterEqual(value(known, 3), 0)
                self.assertEqual(value(known) - value(best), value(known, 3), day)
                self.assertEqual(value(known), (price - cost) * value(mean), day)

    def test_each_piece_more_gains_no_more_than_the_one_before(self):
        for day in self.days(100):
            for of in (0, 1, 2):
                pieces = [value(part) for part in self.behind(day, [("next", of, q) for q in range(60)])]
                gains = [value(part) for part in self.behind(day, [("gain", of, q) for q in range(61)])]
                self.assertEqual(pieces, [more - less for less, more in zip(gains, gains[1:])], day)
                self.assertTrue(all(after <= before for before, after in zip(pieces, pieces[1:])), day)

    def test_pieces_gain_up_to_the_best_number_and_no_longer(self):
        for day in self.days(100):
            for of in (0, 1, 2):
                best = self.behind(day, [("best", of)])[0][0]
                pieces = [value(part) for part in self.behind(day, [("next", of, q) for q in range(60)])]
                self.assertTrue(all(piece > 0 for piece in pieces[:best]), day)
                self.assertTrue(all(piece <= 0 for piece in pieces[best:]), day)

    def test_two_stores_that_share_are_never_worse_whatever_each_has_bought(self):
        source = random.Random(6)
        for day in self.days(200):
            pairs = [(source.randint(0, 60), source.randint(0, 60)) for _ in range(20)]
            pairs += [(source.randint(0, 8), source.randint(0, 8)) for _ in range(20)] + [(0, 60), (60, 0), (60, 60)]
            apart = self.behind(day, [("fair",) + pair for pair in pairs])
            together = self.behind(day, [("lend",) + pair for pair in pairs])
            for pair, one, other in zip(pairs, apart, together):
                self.assertLessEqual(value(one), value(other), (day, pair))

    def test_two_stores_that_share_are_never_worse_at_their_best(self):
        for day in self.days(300):
            pool, here, there, both = self.behind(day, [("pool",), ("best", 0), ("best", 1), ("best", 2)])
            self.assertEqual(pool[:3], [both[0], here[0], there[0]])
            self.assertEqual(value(pool, 3), value(both) - value(here) - value(there))
            self.assertGreaterEqual(value(pool, 3), 0, day)
            lend, fair = self.behind(day, [("lend", here[0], there[0]), ("fair", here[0], there[0])])
            self.assertEqual(value(fair), value(here) + value(there))
            self.assertLessEqual(value(fair), value(lend))
            self.assertLessEqual(value(lend), value(both))

    def test_fair_and_lend_are_the_gains_of_each_and_of_both(self):
        for day in self.days(60):
            for here, there in ((0, 0), (3, 5), (30, 30), (60, 0), (0, 60), (1, 59)):
                fair, lend, one, other, both, sold = self.behind(day, [
                    ("fair", here, there), ("lend", here, there), ("gain", 0, here), ("gain", 1, there),
                    ("gain", 2, here + there), ("sold", 2, here + there)])
                self.assertEqual(value(fair), value(one) + value(other))
                self.assertEqual(lend, both + sold[1:3])

    def test_lend_beyond_60_sells_all_and_leaves_the_rest(self):
        for day in self.days(100):
            cost, price, back = day[0][1:]
            mean = value(self.behind(day, [("mean", 2)])[0])
            for here, there in ((60, 1), (31, 30), (60, 60), (45, 60)):
                lend = self.behind(day, [("lend", here, there)])[0]
                number = here + there
                self.assertEqual(value(lend, 3), mean)
                self.assertEqual(value(lend), price * mean + back * (number - mean) - cost * number)

    def test_stronger_goes_by_every_number(self):
        for day in self.days(200):
            stronger, *upto = self.behind(
                day, [("stronger",)] + [("upto", of, q) for of in (0, 1) for q in range(61)])
            here, there = [part[0] for part in upto[:61]], [part[0] for part in upto[61:]]
            self.assertEqual(stronger[0], int(all(x <= y for x, y in zip(here, there))), day)
            self.assertEqual(stronger[1], int(all(y <= x for x, y in zip(here, there))), day)

    def test_where_more_is_wanted_no_less_is_best(self):
        found = [0, 0, 0]
        for day in self.days(600):
            stronger, here, there = self.behind(day, [("stronger",), ("best", 0), ("best", 1)])
            found[sum(stronger)] += 1
            if stronger[0]:
                self.assertGreaterEqual(here[0], there[0], day)
            if stronger[1]:
                self.assertGreaterEqual(there[0], here[0], day)
        self.assertGreater(min(found), 10)

    def test_where_more_is_wanted_in_every_row_no_less_is_best(self):
        for day in self.days(300):
            more = day[:1] + [("chance", x, min(30, x + y), n) for _, x, y, n in day[1:]]
            stronger, here, there = self.behind(more, [("stronger",), ("best", 0), ("best", 1)])
            self.assertEqual(stronger[1], 1, more)
            self.assertGreaterEqual(there[0], here[0], more)

    def test_dearer_to_buy_no_more_is_best(self):
        source = random.Random(7)
        for day in self.days(150):
            _, price, back = day[0][1:]
            costs = sorted({back, price} | {source.randint(back, price) for _ in range(20)})
            for of in (0, 1, 2):
                best = self.behind(day, [("best", of)])[0][0]
                parts = self.behind(day, [("dear", of, cost) for cost in costs])
                numbers = [part[0] for part in parts]
                self.assertEqual(numbers, sorted(numbers, reverse=True), day)
                self.assertEqual([part[1] for part in parts], [best] * len(costs), day)

    def test_dear_is_the_best_at_that_cost(self):
        source = random.Random(8)
        for day in self.days(150):
            _, price, back = day[0][1:]
            for of in (0, 1, 2):
                cost = source.randint(back, price)
                dear, _, best = self.behind(day, [("dear", of, cost), ("prices", cost, price, back), ("best", of)])
                self.assertEqual(dear[0], best[0], day)

    def test_dearer_to_sell_no_less_is_best(self):
        source = random.Random(9)
        for day in self.days(150):
            cost, _, back = day[0][1:]
            least = max(cost, back + 1)
            for price in sorted({least, 1000} | {source.randint(least, 1000) for _ in range(5)}):
                dearer = source.randint(price, 1000)
                for of in (0, 1, 2):
                    _, best, _, more = self.behind(day, [
                        ("prices", cost, price, back), ("best", of), ("prices", cost, dearer, back), ("best", of)])
                    self.assertLessEqual(best[0], more[0], (day, price, dearer))

    def test_chances_and_state_are_what_was_told(self):
        for day in self.days(150):
            rows = [row[1:] for row in day[1:]]
            chances, state = self.behind(day, [("chances",), ("state",)])
            self.assertEqual(chances, [len(rows)] + [number for row in rows for number in row])
            self.assertEqual(state, [sum(row[2] for row in rows), len(rows)] + list(day[0][1:]))

    def test_asking_changes_nothing(self):
        source = random.Random(10)
        for day in self.days(100):
            asked = [call_of(source, name) for name in NAMES[4:]]
            parts = self.behind(day, [("chances",), ("state",)] + asked + [("chances",), ("state",)])
            self.assertEqual(parts[:2], parts[-2:])

    def test_a_refusal_leaves_chances_and_state(self):
        source = random.Random(11)
        for day in self.days(100):
            calls = []
            for _ in range(40):
                calls += [("chances",), ("state",), some_call(source), ("chances",), ("state",)]
            parts = self.behind(day, calls)
            for place in range(0, len(parts), 5):
                if parts[place + 2][0] < 0:
                    self.assertEqual(parts[place:place + 2], parts[place + 3:place + 5])

    def test_what_is_refused_changes_nothing(self):
        source = random.Random(3)
        for _ in range(200):
            calls = some_day(source) + [some_call(source) for _ in range(60)]
            parts = ask(*calls)
            taken = [call for call, part in zip(calls, parts) if part[0] >= 0]
            self.assertEqual(ask(*taken), [part for part in parts if part[0] >= 0])
            self.assertTrue(all(len(part) == 1 for part in parts if part[0] < 0))


if __name__ == "__main__":
    unittest.main()
