"""Lots: shares of outcomes as integers, their means and their mixtures."""

from math import lcm

from fairpatch.errors import InvalidBlend, InvalidLot, InvalidLots, InvalidNumber, InvalidPayoff
from fairpatch.ratios import Ratio, as_ratio, is_number
from fairpatch.wholes import common_divisor, in_lowest_terms, is_whole, is_whole_from

FEWEST_OUTCOMES = 3
MOST_OUTCOMES = 9
MOST_LOTS = 64


def check_many(many):
    """Raises InvalidNumber unless this is a number of outcomes."""
    if not is_whole_from(many, FEWEST_OUTCOMES, MOST_OUTCOMES):
        raise InvalidNumber(many)


def has_lot_form(value):
    """Whether any value is a lot on as many outcomes as it has items."""
    if not isinstance(value, tuple):
        return False
    if not all([is_whole(part) and part >= 0 for part in value]):
        return False
    return common_divisor(value) == 1


def check_lots(lots):
    """Raises InvalidLots unless this is a list of lots on equally many outcomes."""
    if not isinstance(lots, (list, tuple)) or not 1 <= len(lots) <= MOST_LOTS:
        raise InvalidLots(lots)
    # all of them are judged first: what is no lot need not have a length
    if not all([has_lot_form(lot) for lot in lots]):
        raise InvalidLots(lots)
    many = len(lots[0])
    if not FEWEST_OUTCOMES <= many <= MOST_OUTCOMES or not all([len(lot) == many for lot in lots]):
        raise InvalidLots(lots)


def is_lot(many, value):
    """Whether any value is a lot on so many outcomes."""
    check_many(many)
    return has_lot_form(value) and len(value) == many


def sure(many, outcome):
    """The lot in which the outcome has the share 1."""
    check_many(many)
    if not is_whole_from(outcome, 0, many - 1):
        raise InvalidNumber(outcome)
    return tuple([1 if at == outcome else 0 for at in range(many)])


def are_numbers(value, many):
    """Whether any value is a list of so many numbers."""
    return isinstance(value, (list, tuple)) and len(value) == many and all([is_number(one) for one in value])


def mean(lot, payoff):
    """The sum of the numbers of a payoff, each multiplied by the share of its outcome."""
    if not has_lot_form(lot) or not FEWEST_OUTCOMES <= len(lot) <= MOST_OUTCOMES:
        raise InvalidLot(lot)
    if not are_numbers(payoff, len(lot)):
        raise InvalidPayoff(payoff)
    total = Ratio(0)
    for part, number in zip(lot, payoff):
        total = total + number * part
    return total.over(sum(lot))


def are_weights(value, many):
    """Whether any value is a list of so many numbers from 0 on that are not all 0."""
    if not are_numbers(value, many):
        return False
    tops = [as_ratio(number).top for number in value]
    return min(tops) >= 0 and max(tops) > 0


def mixture_by(lots, weights):
    """The mixture of any number of lots by weights that are right for them."""
    # one bottom for all weights by share keeps the sums below in integers
    parts = [as_ratio(weight).over(sum(lot)) for lot, weight in zip(lots, weights)]
    bottom = 1
    for part in parts:
        bottom = lcm(bottom, part.bottom)
    sums = [0 for _ in lots[0]]
    for lot, part in zip(lots, parts):
        factor = part.top * (bottom // part.bottom)
        sums = [total + factor * share for total, share in zip(sums, lot)]
    return tuple(in_lowest_terms(sums))


def mixed(lots, weights):
    """The mixture of the lots by the weights."""
    check_lots(lots)
    if not are_weights(weights, len(lots)):
        raise InvalidBlend(weights)
    return mixture_by(lots, weights)
