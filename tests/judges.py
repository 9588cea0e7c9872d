"""Judges of the tests' own for blends, tables and papers: over walks, with fractions."""

from fractions import Fraction

from fairpatch.ratios import Ratio
from tests.walks import lot_of_chances, mean_of


def is_int(value):
    return type(value) is int


def fraction(number):
    return Fraction(number.top, number.bottom) if type(number) is Ratio else Fraction(number)


def is_list(value, many=None):
    return type(value) in (list, tuple) and many in (None, len(value))


def is_tuple(value, many):
    return type(value) is tuple and len(value) == many


def same_lot(value, lot):
    return is_tuple(value, len(lot)) and all(map(is_int, value)) and value == lot


def same_row(value, row):
    return is_tuple(value, 2) and is_int(value[1]) and type(value[0]) is tuple and all(map(is_int, value[0])) and value == row


def is_pick(walk, place, value):
    counts = [len(walk.moves(row)) for row in walk.choices(place)]
    return is_tuple(value, len(counts)) and all(is_int(index) and 0 <= index < count for index, count in zip(value, counts))


def blend_lot(walk, place, blend):
    whole = sum(weight for weight, _ in blend)
    shares = [Fraction(0)] * (walk.never + 1)
    for weight, pick in blend:
        shares = [total + share * Fraction(weight, whole) for total, share in zip(shares, walk.shares(place, pick))]
    return lot_of_chances(shares)


def is_blend(walk, place, lot, value):
    if not is_list(value) or not value:
        return False
    for item in value:
        if not is_tuple(item, 2) or not is_int(item[0]) or item[0] < 1 or not is_pick(walk, place, item[1]):
            return False
    if len({pick for _, pick in value}) < len(value):
        return False
    return blend_lot(walk, place, value) == lot


def is_payoff(walk, value):
    return is_list(value, walk.never + 1) and all(map(is_int, value))


def staying(walk, place):
    rows = set(walk.met(place))
    while True:
        left = {row for row in rows if any(set(move) <= rows for move in walk.moves(row))}
        if left == rows:
            return rows
        rows = left


def is_table(walk, place, payoff, value):
    rows = walk.met(place)
    if not is_list(value, len(rows)):
        return False
    numbers = {outcome: Fraction(number) for outcome, number in enumerate(payoff)}
    for item, row in zip(value, rows):
        if not is_tuple(item, 2) or not same_row(item[0], row) or type(item[1]) not in (int, Ratio):
            return False
        numbers[row] = fraction(item[1])
    stays = staying(walk, place)
    for row in rows:
        means = [sum(chance * numbers[further] for further, chance in move.items()) for move in walk.moves(row)]
        if numbers[row] < max(means) or row in stays and numbers[row] < payoff[-1]:
            return False
    return True


def is_against(walk, place, lot, value):
    if not is_tuple(value, 2) or not is_payoff(walk, value[0]) or not is_table(walk, place, *value):
        return False
    payoff, table = value
    first = payoff[place] if is_int(place) else fraction(dict(table)[place])
    return first < mean_of(lot, payoff)


def are_blends(near, place, far, spot, value):
    """Whether a value tells, for each lot that near brings from a place, a blend of far from a spot."""
    lots = near.lots(place)
    return is_list(value, len(lots)) and all(
        is_tuple(item, 2) and same_lot(item[0], lot) and is_blend(far, spot, lot, item[1]) for item, lot in zip(value, lots))


def is_refusal(near, place, far, spot, value):
    return len(value) == 3 and is_pick(near, place, value[0]) and is_against(far, spot, near.lot(place, value[0]), tuple(value[1:]))


def is_paper_at(near, place, far, spot, value):
    if type(value) is not tuple or not value or type(value[0]) is not str:
        return False
    if value[0] == "yes":
        return len(value) == 2 and are_blends(near, place, far, spot, value[1])
    return value[0] == "no" and is_refusal(near, place, far, spot, value[1:])


def is_paper_for(new, old, value):
    if type(value) is not tuple or not value or type(value[0]) is not str:
        return False
    stores = range(new.never)
    if value[0] == "yes":
        return len(value) == 2 and is_list(value[1], new.never) and all(
            are_blends(new, new.first(store), old, old.first(store), part) for store, part in zip(stores, value[1]))
    if value[0] != "no" or len(value) != 5 or not is_int(value[1]) or value[1] not in stores:
        return False
    return is_refusal(new, new.first(value[1]), old, old.first(value[1]), value[2:])


def lists_in(value):
    """All lists and dicts within a value, once for each place."""
    if isinstance(value, (list, tuple)):
        found = [value] if isinstance(value, list) else []
        for part in value:
            found += lists_in(part)
        return found
    return []


def all_new(test, first, second):
    """Two answers are equal, share no list, and have no list at two places."""
    test.assertEqual(first, second)
    own = [id(one) for one in lists_in(first)] + [id(one) for one in lists_in(second)]
    test.assertEqual(len(own), len(set(own)))
