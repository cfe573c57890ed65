"""What is to be looked for when some number is bought.

A demand is a list of pairs: how many are wanted, and how often that comes.
What is counted here is counted as often as each pair comes, all together, and
is a whole number: it is parted by all only when it is told, so nothing is lost.
"""

HERE = 0
THERE = 1
BOTH = 2
MOST_BOUGHT = 60


def greatest_common(first, other):
    while other > 0:
        rest = first % other
        first = other
        other = rest
    return first


def fraction(above, below):
    common = greatest_common(abs(above), below)
    return [above // common, below // common]


def demand_of(rows, of):
    if of == HERE:
        return [(here, often) for here, there, often in rows]
    if of == THERE:
        return [(there, often) for here, there, often in rows]
    return [(here + there, often) for here, there, often in rows]


def often_in_all(demand):
    return sum([often for wanted, often in demand])


def often_up_to(demand, number):
    return sum([often for wanted, often in demand if wanted <= number])


def wanted_in_all(demand):
    return sum([wanted * often for wanted, often in demand])


def sold_in_all(demand, number):
    return sum([min(wanted, number) * often for wanted, often in demand])


def left_in_all(demand, number):
    return number * often_in_all(demand) - sold_in_all(demand, number)


def lost_in_all(demand, number):
    return sum([max(wanted - number, 0) * often for wanted, often in demand])


def gain_in_all(demand, number, cost, price, back):
    paid = cost * number * often_in_all(demand)
    return price * sold_in_all(demand, number) + back * left_in_all(demand, number) - paid


def known_gain_in_all(demand, cost, price):
    # Whoever knows what is wanted buys just that: all of it is sold, nothing is left.
    return (price - cost) * wanted_in_all(demand)


def best_number(demand, cost, price, back):
    best = 0
    most = gain_in_all(demand, 0, cost, price, back)
    for number in range(1, MOST_BOUGHT + 1):
        gained = gain_in_all(demand, number, cost, price, back)
        # Only more counts: of alike numbers the least is the best.
        if gained > most:
            best = number
            most = gained
    return best


def critical_number(demand, cost, price, back):
    needed = (price - cost) * often_in_all(demand)
    number = 0
    # This ends by 60: no more than that is ever wanted, and the share is at most 1.
    while often_up_to(demand, number) * (price - back) < needed:
        number += 1
    return number


def never_more_often_met(demand, other):
    """Whether for no number it comes more often in the demand than in the other that no more is wanted."""
    # Both come equally often in all, and no more than 60 is ever wanted: beyond that they are alike.
    for number in range(MOST_BOUGHT + 1):
        if often_up_to(demand, number) > often_up_to(other, number):
            return False
    return True
