"""What a unit brings from a store, with blends, tables and papers that show it."""

from fairpatch.bests import is_payoff, least_table, number_at
from fairpatch.blends import Bringer, is_blend_for, is_paper_against
from fairpatch.checks import check_unit
from fairpatch.errors import InvalidLot, InvalidPayoff, NotBrought
from fairpatch.grounds import Ground, corners_from
from fairpatch.lots import is_lot
from fairpatch.picks import outset_of


def corners_of(system, unit, store, summaries):
    """The ascending list of the corners of what a unit brings from a store."""
    return corners_from(outset_of(system, unit, store, summaries))


def summary(system, unit):
    """The list that has for each store the corners of what a unit brings."""
    check_unit(system, unit)
    return Ground(system).summary_of(unit)


def outset_with_lot(system, unit, store, summaries, lot):
    """The Outset of a unit from a store, if the lot beside it is one."""
    outset = outset_of(system, unit, store, summaries)
    if not is_lot(outset.never + 1, lot):
        raise InvalidLot(lot)
    return outset


def outset_with_payoff(system, unit, store, summaries, payoff):
    """The Outset of a unit from a store, if the payoff beside it is one."""
    outset = outset_of(system, unit, store, summaries)
    if not is_payoff(payoff, outset.never):
        raise InvalidPayoff(payoff)
    return outset


def brought(system, unit, store, summaries, lot):
    """A blend that brings a lot."""
    bringer = Bringer(outset_with_lot(system, unit, store, summaries, lot))
    blend = bringer.blend_for(lot)
    if blend is None:
        payoff, rows_and_numbers = bringer.paper()
        raise NotBrought(payoff, rows_and_numbers)
    return blend


def table(system, unit, store, summaries, payoff):
    """The least table for a payoff."""
    return least_table(outset_with_payoff(system, unit, store, summaries, payoff), payoff)


def best(system, unit, store, summaries, payoff):
    """The greatest mean of a payoff by a lot that a blend brings."""
    outset = outset_with_payoff(system, unit, store, summaries, payoff)
    return number_at(outset, payoff, least_table(outset, payoff))


def is_brought(system, unit, store, summaries, lot, value):
    """Whether any value is a blend that brings a lot."""
    return is_blend_for(outset_with_lot(system, unit, store, summaries, lot), lot, value)


def is_against(system, unit, store, summaries, lot, value):
    """Whether any value is a paper against a lot."""
    return is_paper_against(outset_with_lot(system, unit, store, summaries, lot), lot, value)
