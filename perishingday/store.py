"""A store for one perishing day: the calls on it and what they answer.

Each call is a function of the store and the call's own numbers. It answers a
list: the number that is told first, then what else is told. A refusal is one
number below 0, and is answered before anything of the store is changed.
"""

from perishingday.outlook import BOTH, MOST_BOUGHT
from perishingday.outlook import best_number, critical_number, demand_of, fraction
from perishingday.outlook import gain_in_all, left_in_all, lost_in_all, sold_in_all
from perishingday.outlook import often_in_all, often_up_to

NONE_THERE = -6
NOT_BEGUN = -11
OUT_OF_RANGE = -22
TOO_MANY = -28

MOST_PRICE = 1000
MOST_WANTED = 30
MOST_OFTEN = 1000
MOST_ROWS = 30


class Store:
    """Its prices, and its rows of chances: wanted here, wanted there, how often."""

    def __init__(self):
        self.begun = False
        self.cost = 0
        self.price = 0
        self.back = 0
        self.rows = []


def prices_fit(cost, price, back):
    return back <= cost and cost <= price and price <= MOST_PRICE and back < price


def row_fits(here, there, often):
    return here <= MOST_WANTED and there <= MOST_WANTED and 1 <= often and often <= MOST_OFTEN


def rows_in_all(rows):
    return sum([often for here, there, often in rows])


def set_prices(store, cost, price, back):
    store.cost = cost
    store.price = price
    store.back = back


def refusal(store, of, number):
    """The refusal that is due where it is asked of 0, 1 or 2 and a number; 0 if none is."""
    if of > BOTH or number > MOST_BOUGHT:
        return OUT_OF_RANGE
    if len(store.rows) == 0:
        return NONE_THERE
    return 0


def expected(demand, counted):
    return fraction(counted, often_in_all(demand))


def expected_gain(store, demand, number):
    return expected(demand, gain_in_all(demand, number, store.cost, store.price, store.back))


def begin(store, cost, price, back):
    if not prices_fit(cost, price, back):
        return [OUT_OF_RANGE]
    set_prices(store, cost, price, back)
    store.rows = []
    store.begun = True
    return [0]


def chance(store, here, there, often):
    if not row_fits(here, there, often):
        return [OUT_OF_RANGE]
    if len(store.rows) >= MOST_ROWS:
        return [TOO_MANY]
    store.rows.append((here, there, often))
    return [rows_in_all(store.rows)]


def never(store, here, there):
    kept = [row for row in store.rows if row[0] != here or row[1] != there]
    if len(kept) == len(store.rows):
        return [NONE_THERE]
    store.rows = kept
    return [rows_in_all(kept)]


def prices(store, cost, price, back):
    if not prices_fit(cost, price, back):
        return [OUT_OF_RANGE]
    answer = [0, store.cost, store.price, store.back]
    set_prices(store, cost, price, back)
    return answer


def gain(store, of, number):
    refused = refusal(store, of, number)
    if refused < 0:
        return [refused]
    return [0] + expected_gain(store, demand_of(store.rows, of), number)


def best(store, of):
    refused = refusal(store, of, 0)
    if refused < 0:
        return [refused]
    demand = demand_of(store.rows, of)
    number = best_number(demand, store.cost, store.price, store.back)
    return [number] + expected_gain(store, demand, number)


def critical(store, of):
    refused = refusal(store, of, 0)
    if refused < 0:
        return [refused]
    demand = demand_of(store.rows, of)
    number = critical_number(demand, store.cost, store.price, store.back)
    return [number, often_up_to(demand, number), often_in_all(demand)]


def share(store):
    return [0] + fraction(store.price - store.cost, store.price - store.back)


def sold(store, of, number):
    refused = refusal(store, of, number)
    if refused < 0:
        return [refused]
    demand = demand_of(store.rows, of)
    told_sold = expected(demand, sold_in_all(demand, number))
    told_left = expected(demand, left_in_all(demand, number))
    return [0] + told_sold + told_left


def lost(store, of, number):
    refused = refusal(store, of, number)
    if refused < 0:
        return [refused]
    demand = demand_of(store.rows, of)
    return [0] + expected(demand, lost_in_all(demand, number))


def upto(store, of, number):
    refused = refusal(store, of, number)
    if refused < 0:
        return [refused]
    demand = demand_of(store.rows, of)
    return [often_up_to(demand, number), often_in_all(demand)]


BEGIN = 0
CALLS = (begin, chance, never, prices, gain, best, critical, share, sold, lost, upto)
# How many numbers each call has behind its own, from begin (0) to state (20).
# It is longer than CALLS, so that a list is parted rightly round calls not built yet.
SIZES = (3, 3, 2, 3, 2, 1, 1, 0, 2, 2, 2, 2, 1, 0, 2, 2, 2, 0, 0, 1, 0)


def made(call, store, numbers):
    if len(numbers) == 0:
        return call(store)
    if len(numbers) == 1:
        return call(store, numbers[0])
    if len(numbers) == 2:
        return call(store, numbers[0], numbers[1])
    return call(store, numbers[0], numbers[1], numbers[2])


def answer_to(store, which, numbers):
    if which != BEGIN and not store.begun:
        return [NOT_BEGUN]
    # A call that is not built yet answers no number, which no built call ever does.
    if which >= len(CALLS):
        return []
    return made(CALLS[which], store, numbers)


def answers(calls):
    store = Store()
    told = []
    place = 0
    while place < len(calls):
        which = calls[place]
        end = place + 1 + SIZES[which]
        answer = answer_to(store, which, calls[place + 1:end])
        told.append(len(answer))
        told.extend(answer)
        place = end
    return told
