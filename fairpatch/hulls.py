"""Hulls of lots: their corners, and shares or a payoff for one more lot."""

from fairpatch.cones import Cone
from fairpatch.errors import InvalidLot, Outside
from fairpatch.lots import check_lots, has_lot_form
from fairpatch.ratios import Ratio
from fairpatch.wholes import dot, in_lowest_terms


def is_higher(lot, other, payoff):
    """Whether a lot has the greater mean or, with equal means, the first share that differs is greater."""
    for part, against in zip((dot(payoff, lot), *lot), (dot(payoff, other), *other)):
        left = part * sum(other)
        right = against * sum(lot)
        if left != right:
            return left > right
    return False


def highest(lots, payoff):
    """The lot that is higher than each other one of different lots; a corner of all of them."""
    best = lots[0]
    for lot in lots:
        if is_higher(lot, best, payoff):
            best = lot
    return best


def corners(lots):
    """The ascending list of the lots that are no mixture of lots that differ from them."""
    check_lots(lots)
    left = sorted(set(lots))
    cone = Cone(len(lots[0]))
    found = []
    while left:
        payoff = cone.payoff_against(left[0])
        if payoff is None:
            left = left[1:]
        else:
            # the corners found so far have means of at most 0 by it, so this is a new one
            corner = highest(left, payoff)
            cone.include(corner)
            found.append(corner)
            left = [lot for lot in left if lot != corner]
    return sorted(found)


def shares_in(lots, lot):
    """Shares by which the lots mix to the lot."""
    check_lots(lots)
    if not has_lot_form(lot) or len(lot) != len(lots[0]):
        raise InvalidLot(lot)
    cone = Cone(len(lot))
    for one in lots:
        cone.include(one)
    payoff = cone.payoff_against(lot)
    if payoff is not None:
        raise Outside(in_lowest_terms(payoff))
    shares = [Ratio(0) for _ in lots]
    bottom = cone.bottom * sum(lot)
    for index, level in zip(cone.base, cone.levels(lot)):
        if index is not None:
            shares[index] = Ratio(level * sum(lots[index]), bottom)
    return shares
