"""Vertices of regions that are greatest for some weights, found by exchanges of exact bases."""

from nearseats.bases import exchanged_solution, leaving_column, weights_in
from nearseats.shares import Shares


class Corner:
    """A basis of columns for the rows of a region, whose point has debts as little as they can be.

    Each row has an idle column, then each unknown has one. The idle column of a row with an exact bound, or with one
    below 0, is a debt: the basis has a point of the region only if all debts in it are 0. A row with a bound below 0
    has its signs changed; if it is not exact, one more column tells by how much its sum is beyond the bound.
    """

    def __init__(self, unknowns, rows):
        signs = [-1 if bound < 0 else 1 for _, bound, _ in rows]
        self._first = len(rows)
        self._unknowns = unknowns
        self._below = 1
        self._solution = idle_solution([abs(bound) for _, bound, _ in rows])
        self._debts = {at: True for at, (_, _, exact) in enumerate(rows) if exact or signs[at] < 0}
        # A debt that has become 0 is never needed again, so that no debt is among the columns that may come in.
        self._parts = {at: ((at, 1),) for at in range(len(rows)) if at not in self._debts}
        for unknown in range(unknowns):
            entries = [(at, signs[at] * numbers[unknown]) for at, (numbers, _, _) in enumerate(rows)]
            self._parts[self._first + unknown] = tuple([(at, entry) for at, entry in entries if entry != 0])
        for at, (_, _, exact) in enumerate(rows):
            if signs[at] < 0 and not exact:
                self._parts[self._first + unknowns + at] = ((at, -1),)
        self.rise([0] * unknowns)

    def has_point(self):
        """Whether no debt is left, so that the basis has a point of the region."""
        return all([value[0] == 0 for column, value in self._solution.items() if column in self._debts])

    def rise(self, weights):
        """Moves until the debts are least and, among such points, the sum of the weights is greatest.

        Returns whether that was reached; it is not if the sum has no bound.
        """
        # A debt weighs more than everything else together.
        worths = {column: (-1, 0) for column in self._debts}
        for column in self._parts:
            worths[column] = (0, 0)
        for unknown, weight in enumerate(weights):
            worths[self._first + unknown] = (0, weight)
        came = self._promising(worths)
        while came is not None:
            found = weights_in(self._solution, self._parts[came])
            left = leaving_column(self._solution, found)
            if left is None:
                return False
            self._below, self._solution = exchanged_solution(self._below, self._solution, found, came, left)
            came = self._promising(worths)
        return True

    def shares(self):
        """The fractions of the unknowns at the present point."""
        columns = range(self._first, self._first + self._unknowns)
        numbers = [self._solution[column][0] if column in self._solution else 0 for column in columns]
        return Shares(numbers, below=self._below)

    def _promising(self, worths):
        """The column with the greatest gain, if it is above 0; None otherwise. Worths are pairs for all columns."""
        debts = row_prices(self._solution, {column: worths[column][0] for column in self._solution})
        sums = row_prices(self._solution, {column: worths[column][1] for column in self._solution})
        best = (0, 0)
        found = None
        for column, parts in self._parts.items():
            debt, worth = worths[column]
            gain = (debt * self._below - sum([debts[row] * entry for row, entry in parts]),
                    worth * self._below - sum([sums[row] * entry for row, entry in parts]))
            if gain > best:
                best = gain
                found = column
        return found


def idle_solution(bounds):
    """The solution of all idle columns: a tuple with its bound, and a 1 among zeros, for each of them."""
    many = len(bounds)
    return {row: (bound, *[1 if other == row else 0 for other in range(many)]) for row, bound in enumerate(bounds)}


def row_prices(solution, worths):
    """What one unit of each row is worth, multiplied by the number below; worths has each column of the solution."""
    prices = [0] * len(solution)
    for column, worth in worths.items():
        if worth != 0:
            prices = [price + worth * item for price, item in zip(prices, solution[column][1:])]
    return prices
