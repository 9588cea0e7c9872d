"""What a web brings from a place on: the rows met, the choices there, picks and their lots."""

from fairpatch.chains import take_out
from fairpatch.errors import TooGreat, TooMany
from fairpatch.wholes import is_whole_from

MOST_PICKS = 64
TOO_GREAT = 10 ** 40
# the number of no place: its one move leads to the place from which all begins
BEGIN = -1


class Outset:
    """A place of a web, the rows that can be met from it, and the picks there.

    In the chains each outcome is its own number, and the rows met have the numbers behind never, in
    their order. `unit` and `store` are what a TooGreat tells.
    """

    def __init__(self, web, place, unit, store):
        self.web = web
        self.place = place
        self.never = web.never
        self.unit = unit
        self.store = store
        self.rows = web.met_from(place)
        self.numbers = {row: self.never + 1 + at for at, row in enumerate(self.rows)}
        self.chain = {BEGIN: [{self.number_of_place(place): 1}]}
        for row in self.rows:
            self.chain[self.numbers[row]] = [
                {self.number_of_place(further): weight for further, weight in move} for move in web.moves_kept(row)]
        self.choices = [number for number in self.chain if len(self.chain[number]) > 1]
        self.narrow = {}
        self.taken = []
        self.lots_found = {}

    def number_of_place(self, place):
        """The number of an outcome or of a row met."""
        if isinstance(place, tuple):
            return self.numbers[place]
        return place

    def count_of_picks(self):
        """The number of all picks."""
        count = 1
        for number in self.choices:
            count = count * len(self.chain[number])
        return count

    def check_picks(self):
        """Raises TooMany if there are too many picks to go by each of them."""
        count = self.count_of_picks()
        if count > MOST_PICKS:
            raise TooMany(count)

    def all_picks(self):
        """The ascending list of all picks, which must not be too many."""
        self.check_picks()
        found = [()]
        for number in self.choices:
            found = [(*pick, index) for pick in found for index in range(len(self.chain[number]))]
        return found

    def is_pick(self, value):
        """Whether any value is a pick."""
        if not isinstance(value, tuple) or len(value) != len(self.choices):
            return False
        counts = [len(self.chain[number]) for number in self.choices]
        return all([is_whole_from(index, 0, count - 1) for index, count in zip(value, counts)])

    def narrowed(self):
        """The chain without the rows that have no choice; `taken` keeps how others go on in their place."""
        if not self.narrow:
            left = dict(self.chain)
            # rows that come last lead to outcomes soonest, so their moves stay short
            for number in sorted(list(self.chain), reverse=True):
                if number != BEGIN and number not in self.choices:
                    self.taken.append((number, take_out(left, number, self.never)))
            self.narrow = left
        return self.narrow

    def lot_by(self, pick):
        """The lot of a pick."""
        narrow = self.narrowed()
        left = {number: [narrow[number][index]] for number, index in zip(self.choices, pick)}
        left[BEGIN] = narrow[BEGIN]
        for number in sorted(self.choices, reverse=True):
            take_out(left, number, self.never)
        shares = left[BEGIN][0]
        return tuple([shares.get(outcome, 0) for outcome in range(self.never + 1)])

    def check_lot(self, lot):
        """Raises TooGreat if an integer of a lot is too great."""
        if max(lot) >= TOO_GREAT:
            raise TooGreat(self.unit, self.store)

    def picks_by_lot(self):
        """A dict from the lots of all picks, ascending, to the least pick with each; callers do not change it."""
        if not self.lots_found:
            found = {}
            for pick in self.all_picks():
                lot = self.lot_by(pick)
                if lot not in found:
                    found[lot] = pick
            for lot in found:
                self.check_lot(lot)
            self.lots_found = {lot: found[lot] for lot in sorted(list(found))}
        return self.lots_found

    def row_of(self, number):
        """The row met with a number."""
        return self.rows[number - self.never - 1]
