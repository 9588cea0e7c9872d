"""Blends of picks, papers against lots, and whether what one outset brings another one brings."""

from fairpatch.bests import is_payoff, is_table, least_table, number_at
from fairpatch.cones import Cone
from fairpatch.lots import has_lot_form, mean, mixture_by
from fairpatch.wholes import in_lowest_terms, is_whole


class Bringer:
    """The lots of all picks of an outset, and blends of these picks for other lots.

    A lot that no blend brings leaves a payoff in `against` whose mean by the lot is greater than
    its mean by what the picks bring.
    """

    def __init__(self, outset):
        self.outset = outset
        self.by_lot = outset.picks_by_lot()
        self.cone = Cone(outset.never + 1)
        self.against = None
        for lot in self.by_lot:
            self.cone.include(lot)

    def blend_for(self, lot):
        """A blend that brings a lot, or None."""
        if lot in self.by_lot:
            return [(1, self.by_lot[lot])]
        payoff = self.cone.payoff_against(lot)
        if payoff is not None:
            self.against = in_lowest_terms(payoff)
            return None
        chosen = {}
        for index, level in zip(self.cone.base, self.cone.levels(lot)):
            if index is not None and level > 0:
                chosen[index] = level * self.cone.sums[index]
        used = sorted(list(chosen))
        weights = in_lowest_terms([chosen[index] for index in used])
        brought_by = [self.by_lot[self.cone.vectors[index]] for index in used]
        return list(zip(weights, brought_by))

    def paper(self):
        """The tuple (payoff, table) against the last lot that no blend brings."""
        return list(self.against), least_table(self.outset, self.against)


def is_blend(outset, value):
    """Whether any value is a blend of picks of an outset."""
    if not isinstance(value, (list, tuple)) or not value:
        return False
    seen = {}
    for item in value:
        if not isinstance(item, tuple) or len(item) != 2 or not is_whole(item[0]) or item[0] < 1:
            return False
        if not outset.is_pick(item[1]) or item[1] in seen:
            return False
        seen[item[1]] = True
    return True


def is_blend_for(outset, lot, value):
    """Whether any value is a blend that brings a lot."""
    if not is_blend(outset, value):
        return False
    lots = [outset.lot_by(pick) for _, pick in value]
    return mixture_by(lots, [weight for weight, _ in value]) == lot


def is_paper_against(outset, lot, value):
    """Whether any value is a paper against a lot."""
    if not isinstance(value, tuple) or len(value) != 2:
        return False
    payoff, rows_and_numbers = value
    if not is_payoff(payoff, outset.never) or not is_table(outset, payoff, rows_and_numbers):
        return False
    return number_at(outset, payoff, rows_and_numbers).below(mean(lot, payoff))


def blends_or_refusal(near, far):
    """The list of the tuples (lot, blend) of all lots of picks of one bringer, by blends of the other one.

    Instead, it is a tuple (pick, payoff, table) if the other one does not bring the lot of the pick.
    """
    found = []
    for lot, pick in near.by_lot.items():
        blend = far.blend_for(lot)
        if blend is None:
            payoff, rows_and_numbers = far.paper()
            return pick, payoff, rows_and_numbers
        found.append((lot, blend))
    return found


def are_blends(near, far, value):
    """Whether any value is a list of such tuples (lot, blend), with whatever blends bring the lots."""
    if not isinstance(value, (list, tuple)) or len(value) != len(near.by_lot):
        return False
    for item, lot in zip(value, near.by_lot):
        if not isinstance(item, tuple) or len(item) != 2 or not has_lot_form(item[0]) or item[0] != lot:
            return False
        if not is_blend_for(far.outset, lot, item[1]):
            return False
    return True


def is_refusal(near, far, value):
    """Whether three values in a tuple tell a pick of one bringer, and a paper of the other one against its lot."""
    if not near.outset.is_pick(value[0]):
        return False
    return is_paper_against(far.outset, near.outset.lot_by(value[0]), value[1:])
