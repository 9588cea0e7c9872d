"""Whether a vector is a sum of multiples of others, none of them negative.

Lots are such vectors: a lot is a mixture of others exactly if it is such a sum of
them, and integers alone tell it. Pivots go from one base of vectors to the next.
"""

from fairpatch.wholes import dot

# Pivots that gain much can go round in a circle; behind so many of them, those that
# are slower but always end take over.
PATIENCE = 40


def cleared(row, own, lead, share, bottom):
    """A row from which a pivot takes its part of the leading row; the division leaves no remainder."""
    return [(share * part - own * other) // bottom for part, other in zip(row, lead)]


class Cone:
    """Some vectors, and a base of them that is pivoted until it bears a target.

    A row, multiplied by any vector, tells how often the vector of its base is taken in it, as
    the top of a quotient with `bottom`, which is above 0. A place of the base with None is held
    by a vector of a single 1 that belongs to no sum: it must not be taken, and leaves for good.
    """

    def __init__(self, width, patience=PATIENCE):
        self.vectors = []
        self.sums = []
        self.base = [None for _ in range(width)]
        self.rows = [[1 if at == place else 0 for at in range(width)] for place in range(width)]
        self.bottom = 1
        self.patience = patience

    def include(self, vector):
        """Takes a vector of integers from 0 on, not all 0, among the vectors."""
        self.vectors.append(vector)
        self.sums.append(sum(vector))

    def levels(self, target):
        """How often each vector of the base is taken in the target, as tops."""
        return [dot(row, target) for row in self.rows]

    def payoff_against(self, target):
        """None if the target is such a sum, which the base then bears; else a list of integers.

        Their product with the target is above 0, that with each of the vectors is not.
        """
        pivots = 0
        while True:
            levels = self.levels(target)
            patient = pivots < self.patience
            place = self.leaving(levels, patient)
            if place is None:
                return None
            payoff = list(self.rows[place])
            if levels[place] < 0:
                payoff = [-part for part in payoff]
            index = self.entering(payoff, patient)
            if index is None:
                return payoff
            self.pivot(place, index)
            pivots += 1

    def leaving(self, levels, patient):
        """The place of the base that must change, or None if the base bears the target."""
        held = [place for place, index in enumerate(self.base) if index is None and levels[place] != 0]
        if held:
            return held[0]
        wrong = [place for place, level in enumerate(levels) if level < 0]
        if not wrong:
            return None
        if patient:
            return min(wrong, key=lambda place: levels[place])
        return min(wrong, key=lambda place: self.base[place])

    def entering(self, payoff, patient):
        """The vector that the payoff does not speak against and that comes into the base, or None."""
        best = None
        best_gain = 0
        best_sum = 1
        for index, vector in enumerate(self.vectors):
            gain = dot(payoff, vector)
            if gain > 0 and gain * best_sum > best_gain * self.sums[index]:
                if not patient:
                    return index
                best = index
                best_gain = gain
                best_sum = self.sums[index]
        return best

    def pivot(self, place, index):
        """Puts a vector at a place of the base."""
        shares = self.levels(self.vectors[index])
        lead = self.rows[place]
        share = shares[place]
        if share < 0:
            lead = [-part for part in lead]
            share = -share
        rows = [cleared(row, own, lead, share, self.bottom) for row, own in zip(self.rows, shares)]
        rows[place] = lead
        self.rows = rows
        self.base[place] = index
        self.bottom = share
