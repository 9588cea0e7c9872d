"""Picks of a unit from a store, and the lots that they bring."""

from fairpatch.checks import check_unit
from fairpatch.errors import InvalidPick
from fairpatch.outsets import Outset
from fairpatch.spaces import Space
from fairpatch.webs import check_summaries, web_of


def outset_of(system, unit, store, summaries):
    """The Outset of a unit from a store; raises what all functions with these arguments raise."""
    check_unit(system, unit)
    Space(system[0]).check_store(store)
    body = dict(system[1])[unit]
    check_summaries(system, body, summaries)
    return outset_at(web_of(system, body, summaries), unit, store)


def outset_at(web, unit, store):
    """The Outset of the web of a unit from a store."""
    return Outset(web, web.first(store), unit, store)


def picks(system, unit, store, summaries):
    """The ascending list of all picks."""
    return outset_of(system, unit, store, summaries).all_picks()


def lot_by(system, unit, store, summaries, pick):
    """The lot that comes by a pick."""
    outset = outset_of(system, unit, store, summaries)
    if not outset.is_pick(pick):
        raise InvalidPick(pick)
    lot = outset.lot_by(pick)
    outset.check_lot(lot)
    return lot
