"""A store for one perishing day: the calls on it and what they answer.

Each call is a function of the store and the call's own numbers. It answers a
list: the number that is told first, then what else is told. A refusal is one
number below 0, and is answered before anything of the store is changed.
"""

from perishingday.outlook import BOTH, HERE, MOST_BOUGHT, THERE
from perishingday.outlook import best_number, critical_number, demand_of, fraction
from perishingday.outlook import gain_in_all, known_gain_in_all, left_in_all, lost_in_all, sold_in_all, wanted_in_all
from perishingday.outlook import never_more_often_met, often_in_all, often_up_to

NONE_THERE = -6
NOT_BEGUN = -11
OUT_OF_RANGE = -22
TOO_MANY = -28

MOST_PRICE = 1000
MOST_WANTED = 30
MOST_OFTEN = 1000
MOST_ROWS = 30


class Store:
    """Its prices, and its rows of chances: wanted here, wanted there, how often."""

    def __init__(self):
        self.begun = False
        self.cost = 0
        self.price = 0
        self.back = 0
        self.rows = []


def prices_fit(cost, price, back):
    return back <= cost and cost <= price and price <= MOST_PRICE and back < price


def row_fits(here, there, often):
    return here <= MOST_WANTED and there <= MOST_WANTED and 1 <= often and often <= MOST_OFTEN


def rows_in_all(rows):
    return sum([often for here, there, often in rows])


def set_prices(store, cost, price, back):
    store.cost = cost
    store.price = price
    store.back = back


def refusal(store, out_of_range):
    """The refusal that is due where something is asked that needs chances; 0 if none is."""
    if out_of_range:
        return OUT_OF_RANGE
    if len(store.rows) == 0:
        return NONE_THERE
    return 0


def expected(demand, counted):
    return fraction(counted, often_in_all(demand))


def gain_with(store, demand, number):
    return gain_in_all(demand, number, store.cost, store.price, store.back)


def expected_gain(store, demand, number):
    return expected(demand, gain_with(store, demand, number))


def best_now(store, demand):
    return best_number(demand, store.cost, store.price, store.back)


def begin(store, cost, price, back):
    if not prices_fit(cost, price, back):
        return [OUT_OF_RANGE]
    set_prices(store, cost, price, back)
    store.rows = []
    store.begun = True
    return [0]


def chance(store, here, there, often):
    if not row_fits(here, there, often):
        return [OUT_OF_RANGE]
    if len(store.rows) >= MOST_ROWS:
        return [TOO_MANY]
    store.rows.append((here, there, often))
    return [rows_in_all(store.rows)]


def never(store, here, there):
    kept = [row for row in store.rows if row[0] != here or row[1] != there]
    if len(kept) == len(store.rows):
        return [NONE_THERE]
    store.rows = kept
    return [rows_in_all(kept)]


def prices(store, cost, price, back):
    if not prices_fit(cost, price, back):
        return [OUT_OF_RANGE]
    answer = [0, store.cost, store.price, store.back]
    set_prices(store, cost, price, back)
    return answer


def gain(store, of, number):
    refused = refusal(store, of > BOTH or number > MOST_BOUGHT)
    if refused < 0:
        return [refused]
    return [0] + expected_gain(store, demand_of(store.rows, of), number)


def best(store, of):
    refused = refusal(store, of > BOTH)
    if refused < 0:
        return [refused]
    demand = demand_of(store.rows, of)
    number = best_now(store, demand)
    return [number] + expected_gain(store, demand, number)


def critical(store, of):
    refused = refusal(store, of > BOTH)
    if refused < 0:
        return [refused]
    demand = demand_of(store.rows, of)
    number = critical_number(demand, store.cost, store.price, store.back)
    return [number, often_up_to(demand, number), often_in_all(demand)]


def share(store):
    return [0] + fraction(store.price - store.cost, store.price - store.back)


def sold(store, of, number):
    refused = refusal(store, of > BOTH or number > MOST_BOUGHT)
    if refused < 0:
        return [refused]
    demand = demand_of(store.rows, of)
    told_sold = expected(demand, sold_in_all(demand, number))
    told_left = expected(demand, left_in_all(demand, number))
    return [0] + told_sold + told_left


def lost(store, of, number):
    refused = refusal(store, of > BOTH or number > MOST_BOUGHT)
    if refused < 0:
        return [refused]
    demand = demand_of(store.rows, of)
    return [0] + expected(demand, lost_in_all(demand, number))


def upto(store, of, number):
    refused = refusal(store, of > BOTH or number > MOST_BOUGHT)
    if refused < 0:
        return [refused]
    demand = demand_of(store.rows, of)
    return [often_up_to(demand, number), often_in_all(demand)]


def one_more(store, of, number):
    refused = refusal(store, of > BOTH or number >= MOST_BOUGHT)
    if refused < 0:
        return [refused]
    demand = demand_of(store.rows, of)
    more = gain_with(store, demand, number + 1) - gain_with(store, demand, number)
    return [0] + expected(demand, more)


def known(store, of):
    refused = refusal(store, of > BOTH)
    if refused < 0:
        return [refused]
    demand = demand_of(store.rows, of)
    by_knowing = known_gain_in_all(demand, store.cost, store.price)
    by_best = gain_with(store, demand, best_now(store, demand))
    return [0] + expected(demand, by_knowing) + expected(demand, by_knowing - by_best)


def pool(store):
    refused = refusal(store, False)
    if refused < 0:
        return [refused]
    here = demand_of(store.rows, HERE)
    there = demand_of(store.rows, THERE)
    both = demand_of(store.rows, BOTH)
    best_here = best_now(store, here)
    best_there = best_now(store, there)
    best_both = best_now(store, both)
    apart = gain_with(store, here, best_here) + gain_with(store, there, best_there)
    together = gain_with(store, both, best_both)
    return [best_both, best_here, best_there] + expected(both, together - apart)


def fair(store, here, there):
    refused = refusal(store, here > MOST_BOUGHT or there > MOST_BOUGHT)
    if refused < 0:
        return [refused]
    demand_here = demand_of(store.rows, HERE)
    demand_there = demand_of(store.rows, THERE)
    apart = gain_with(store, demand_here, here) + gain_with(store, demand_there, there)
    return [0] + expected(demand_here, apart)


def lend(store, here, there):
    # Each is held to 60 by itself: the two together may be more.
    refused = refusal(store, here > MOST_BOUGHT or there > MOST_BOUGHT)
    if refused < 0:
        return [refused]
    demand = demand_of(store.rows, BOTH)
    number = here + there
    return [0] + expected_gain(store, demand, number) + expected(demand, sold_in_all(demand, number))


def dear(store, of, cost):
    refused = refusal(store, of > BOTH or not prices_fit(cost, store.price, store.back))
    if refused < 0:
        return [refused]
    demand = demand_of(store.rows, of)
    return [best_number(demand, cost, store.price, store.back), best_now(store, demand)]


def stronger(store):
    refused = refusal(store, False)
    if refused < 0:
        return [refused]
    here = demand_of(store.rows, HERE)
    there = demand_of(store.rows, THERE)
    by_here = 1 if never_more_often_met(here, there) else 0
    by_there = 1 if never_more_often_met(there, here) else 0
    return [by_here, by_there]


def chances(store):
    answer = [len(store.rows)]
    for here, there, often in store.rows:
        answer.extend([here, there, often])
    return answer


def mean(store, of):
    refused = refusal(store, of > BOTH)
    if refused < 0:
        return [refused]
    demand = demand_of(store.rows, of)
    return [0] + expected(demand, wanted_in_all(demand))


def state(store):
    return [rows_in_all(store.rows), len(store.rows), store.cost, store.price, store.back]


BEGIN = 0
# A call's number is its place here: from begin (0) to state (20); next is one_more.
CALLS = (
    begin, chance, never, prices, gain, best, critical, share, sold, lost, upto,
    one_more, known, pool, fair, lend, dear, stronger, chances, mean, state,
)
# How many numbers each call has behind its own.
SIZES = (3, 3, 2, 3, 2, 1, 1, 0, 2, 2, 2, 2, 1, 0, 2, 2, 2, 0, 0, 1, 0)


def made(call, store, numbers):
    if len(numbers) == 0:
        return call(store)
    if len(numbers) == 1:
        return call(store, numbers[0])
    if len(numbers) == 2:
        return call(store, numbers[0], numbers[1])
    return call(store, numbers[0], numbers[1], numbers[2])


def answer_to(store, which, numbers):
    if which != BEGIN and not store.begun:
        return [NOT_BEGUN]
    return made(CALLS[which], store, numbers)


def answers(calls):
    store = Store()
    told = []
    place = 0
    while place < len(calls):
        which = calls[place]
        end = place + 1 + SIZES[which]
        answer = answer_to(store, which, calls[place + 1:end])
        told.append(len(answer))
        told.extend(answer)
        place = end
    return told
