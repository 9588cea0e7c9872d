"""What a unit brings from a store, with blends, tables and papers that show it."""

from fairpatch.bests import is_payoff, least_table, number_at
from fairpatch.blends import Bringer, is_blend_for, is_paper_against
from fairpatch.checks import check_unit
from fairpatch.errors import InvalidLot, InvalidPayoff, NotBrought, TooRich
from fairpatch.hulls import corners
from fairpatch.lots import is_lot
from fairpatch.picks import outset_at, outset_of
from fairpatch.trees import walked
from fairpatch.webs import MOST_CORNERS, web_of


def corners_from(outset):
    """The ascending list of the corners of the lots of all picks of an outset."""
    return corners(list(outset.picks_by_lot()))


def corners_of(system, unit, store, summaries):
    """The ascending list of the corners of what a unit brings from a store."""
    return corners_from(outset_of(system, unit, store, summaries))


def units_below(system, bodies):
    """The list of the units, in order, that some of the bodies call, that such a unit calls, and so on."""
    waiting = list(bodies)
    called = []
    for unit, body in reversed(system[1]):
        if any([calls_unit(caller, unit) for caller in waiting]):
            called.append(unit)
            waiting.append(body)
    return list(reversed(called))


def calls_unit(body, unit):
    """Whether a statement of a body calls a unit."""
    return any([statement == ("call", unit) for _, statement in walked(body, ())])


def summary_over(system, unit, told):
    """The list of the corners of a unit for each store, over a dict of the summaries of what it calls."""
    web = web_of(system, dict(system[1])[unit], told)
    found = []
    for store in range(web.never):
        lots = corners_from(outset_at(web, unit, store))
        if len(lots) > MOST_CORNERS:
            raise TooRich(unit, store, len(lots))
        found.append(lots)
    return found


def summaries_below(system, bodies):
    """A dict of the summaries of all units that bodies of a fair system call, directly or not."""
    told = {}
    for unit in units_below(system, bodies):
        told[unit] = summary_over(system, unit, told)
    return told


def summary(system, unit):
    """The list that has for each store the corners of what a unit brings."""
    check_unit(system, unit)
    told = summaries_below(system, [dict(system[1])[unit]])
    return summary_over(system, unit, told)


def outset_with_lot(system, unit, store, summaries, lot):
    """The Outset of a unit from a store, if the lot beside it is one."""
    outset = outset_of(system, unit, store, summaries)
    if not is_lot(outset.never + 1, lot):
        raise InvalidLot(lot)
    return outset


def outset_with_payoff(system, unit, store, summaries, payoff):
    """The Outset of a unit from a store, if the payoff beside it is one."""
    outset = outset_of(system, unit, store, summaries)
    if not is_payoff(payoff, outset.never):
        raise InvalidPayoff(payoff)
    return outset


def brought(system, unit, store, summaries, lot):
    """A blend that brings a lot."""
    bringer = Bringer(outset_with_lot(system, unit, store, summaries, lot))
    blend = bringer.blend_for(lot)
    if blend is None:
        payoff, rows_and_numbers = bringer.paper()
        raise NotBrought(payoff, rows_and_numbers)
    return blend


def table(system, unit, store, summaries, payoff):
    """The least table for a payoff."""
    return least_table(outset_with_payoff(system, unit, store, summaries, payoff), payoff)


def best(system, unit, store, summaries, payoff):
    """The greatest mean of a payoff by a lot that a blend brings."""
    outset = outset_with_payoff(system, unit, store, summaries, payoff)
    return number_at(outset, payoff, least_table(outset, payoff))


def is_brought(system, unit, store, summaries, lot, value):
    """Whether any value is a blend that brings a lot."""
    return is_blend_for(outset_with_lot(system, unit, store, summaries, lot), lot, value)


def is_against(system, unit, store, summaries, lot, value):
    """Whether any value is a paper against a lot."""
    return is_paper_against(outset_with_lot(system, unit, store, summaries, lot), lot, value)
