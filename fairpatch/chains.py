"""Chains: rows that go on to places by chance, and rows taken out of them one by one.

A chain is a dict from numbers of rows to lists of moves. A move is a dict from numbers of places
to weights from 1 on without a common divisor. A row that has one move alone can be taken out: in
all other moves, the places to which it leads take its place.
"""

from fairpatch.ratios import Ratio
from fairpatch.wholes import common_divisor


def scaled_down(move):
    """A move with its weights divided by their greatest common divisor."""
    divisor = common_divisor(list(move.values()))
    return {place: weight // divisor for place, weight in move.items()}


def leaving(move, row, never):
    """A move of a row without its way back to the row itself; what leads nowhere else leads to never."""
    away = {place: weight for place, weight in move.items() if place != row}
    if not away:
        return {never: 1}
    return scaled_down(away)


def replaced(move, row, onward):
    """A move in which a row gives way to the places to which its own move leads."""
    if row not in move:
        return move
    weight = move[row]
    whole = sum(list(onward.values()))
    further = {place: part * whole for place, part in move.items() if place != row}
    for place, part in onward.items():
        further[place] = further.get(place, 0) + part * weight
    return scaled_down(further)


def take_out(chain, row, never):
    """Takes a row with one move out of a chain, and returns the move by which others go on in its place."""
    onward = leaving(chain.pop(row)[0], row, never)
    for other in list(chain):
        chain[other] = [replaced(move, row, onward) for move in chain[other]]
    return onward


def mean_by(move, numbers):
    """The mean of the numbers of the places of a move, a Ratio."""
    total = Ratio(0)
    for place, weight in move.items():
        total = total + numbers[place] * weight
    return total.over(sum(list(move.values())))
