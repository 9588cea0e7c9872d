"""The greatest means that picks bring for a payoff, and tables that judge them."""

from fairpatch.chains import mean_by, take_out
from fairpatch.ratios import Ratio, as_ratio, is_number
from fairpatch.wholes import is_whole


def is_payoff(value, never):
    """Whether any value is a list of integers, one for each outcome."""
    return isinstance(value, (list, tuple)) and len(value) == never + 1 and all([is_whole(one) for one in value])


def numbers_by(outset, indices, payoff):
    """A dict of the means of a payoff from all outcomes and choice rows, going by an index for each of these."""
    narrow = outset.narrowed()
    left = {number: [narrow[number][indices[number]]] for number in outset.choices}
    taken = [(number, take_out(left, number, outset.never)) for number in sorted(outset.choices, reverse=True)]
    numbers = {outcome: as_ratio(number) for outcome, number in enumerate(payoff)}
    add_taken(numbers, taken)
    return numbers


def add_taken(numbers, taken):
    """Adds the numbers of rows that were taken out of a chain, the last one first, to those of the others."""
    for number, onward in reversed(taken):
        numbers[number] = mean_by(onward, numbers)


def staying_indices(outset):
    """A dict of the index of a move for each choice row, of one that stays among such rows if some do.

    To lead to never counts as staying here: rows without a choice that go round end there.
    """
    narrow = outset.narrowed()
    left = list(outset.choices)
    while True:
        inside = {outset.never: True}
        for number in left:
            inside[number] = True
        indices = {number: index_within(narrow[number], inside) for number in left}
        kept = [number for number in left if indices[number] is not None]
        if len(kept) == len(left):
            return {number: indices.get(number, 0) for number in outset.choices}
        left = kept


def index_within(moves, inside):
    """The least index of a move that leads to keys of a dict alone, or None."""
    for index, move in enumerate(moves):
        if all([place in inside for place in move]):
            return index
    return None


def best_way(outset, payoff):
    """A tuple of a dict of indices for all choice rows, and a dict of the numbers of all places met.

    Going by these indices brings from each row the greatest mean of the payoff. Each round goes
    over to moves with greater means. It begins by staying wherever one may, so that no row at
    which one may stay comes below the number of never; and numbers only rise, so it ends.
    """
    narrow = outset.narrowed()
    indices = staying_indices(outset)
    better = True
    while better:
        better = False
        numbers = numbers_by(outset, indices, payoff)
        for row in outset.choices:
            greatest = numbers[row]
            for index, move in enumerate(narrow[row]):
                number = mean_by(move, numbers)
                if greatest.below(number):
                    greatest = number
                    indices[row] = index
                    better = True
    add_taken(numbers, outset.taken)
    return indices, numbers


def least_table(outset, payoff):
    """The list of the tuples (row, number) of the least table for a payoff."""
    numbers = best_way(outset, payoff)[1]
    return [(row, numbers[outset.numbers[row]]) for row in outset.rows]


def number_at(outset, payoff, rows_and_numbers):
    """The number of the place from which an outset begins, a Ratio, by a table for a payoff."""
    if isinstance(outset.place, tuple):
        return as_ratio(rows_and_numbers[outset.rows.index(outset.place)][1])
    return Ratio(payoff[outset.place])


def has_table_form(outset, value):
    """Whether any value is an ascending list of tuples (row, number), one for each row met."""
    if not isinstance(value, (list, tuple)) or len(value) != len(outset.rows):
        return False
    for item, row in zip(value, outset.rows):
        if not isinstance(item, tuple) or len(item) != 2 or not is_number(item[1]):
            return False
        # a row is asked for first: True and a Ratio may equal an integer
        if not outset.web.is_row(item[0]) or item[0] != row:
            return False
    return True


def numbers_told(outset, payoff, value):
    """A dict of the numbers of all places met by any value that is a table for a payoff; else None."""
    if not has_table_form(outset, value):
        return None
    numbers = {outcome: as_ratio(number) for outcome, number in enumerate(payoff)}
    for row, number in value:
        numbers[outset.numbers[row]] = as_ratio(number)
    never = numbers[outset.never]
    for row in outset.web.staying_among(outset.rows):
        if numbers[outset.numbers[row]].below(never):
            return None
    for number in outset.numbers.values():
        for move in outset.chain[number]:
            if numbers[number].below(mean_by(move, numbers)):
                return None
    return numbers


def is_table(outset, payoff, value):
    """Whether any value is a table for a payoff."""
    return numbers_told(outset, payoff, value) is not None


def moves_by(outset, indices):
    """A dict of one move for each row met, by a dict of indices for the choice rows."""
    return {number: outset.chain[number][indices.get(number, 0)] for number in outset.numbers.values()}


def rows_without_end(outset, moves):
    """The list of the numbers of the rows from which such moves lead to no outcome, with however small a chance."""
    left = list(moves)
    while True:
        inside = {number: True for number in left}
        # what leads to an outcome, or to a row that does, leads to one
        kept = [number for number in left if all([place in inside for place in moves[number]])]
        if len(kept) == len(left):
            return kept
        left = kept


def are_best_moves(outset, numbers, indices):
    """Whether such moves have just the numbers of a table, and those that lead to no outcome the number of never."""
    moves = moves_by(outset, indices)
    if not all([mean_by(move, numbers) == numbers[number] for number, move in moves.items()]):
        return False
    return all([numbers[number] == numbers[outset.never] for number in rows_without_end(outset, moves)])
