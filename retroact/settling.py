"""The cheapest choice of a column for each row, with prices that show that no choice is cheaper."""


class Settling:
    """Rows that have columns, at the least cost of all choices for these rows.

    Each row has a list of pairs (column, cost), among them a column that no other row has. Rows and columns have
    prices: the two prices of a pair are together never above its cost, and equal to it where the row has the column.
    No column's price is above 0, and that of a column that no row has is 0.
    """

    def __init__(self, rows, columns):
        self.rows = rows
        self.row_prices = [0] * len(rows)
        self.column_prices = [0] * columns
        self.owners = {}

    def take_row(self, row):
        """Give a further row a column; columns of other rows may change for it."""
        distances, came_from = {}, {}
        nearest = {}
        last = None
        distance = 0
        at = row
        while at is not None:
            for column, cost in self.rows[at]:
                way = distance + cost - self.row_prices[at] - self.column_prices[column]
                if column not in distances and (column not in nearest or way < nearest[column]):
                    nearest[column] = way
                    came_from[column] = last
            distance, last = min([(nearest[column], column) for column in nearest])
            distances[last] = distance
            del nearest[last]
            at = self.owners.get(last)
        self._change_prices(row, distances, distance)
        self._change_owners(row, came_from, last)

    def _change_prices(self, row, distances, distance):
        """Make the pairs on the way to the free column cost what their prices are together."""
        self.row_prices[row] += distance
        for column in distances:
            if column in self.owners:
                self.row_prices[self.owners[column]] += distance - distances[column]
                self.column_prices[column] -= distance - distances[column]

    def _change_owners(self, row, came_from, column):
        """Give each column on the way to the free one to the row that reached it."""
        while came_from[column] is not None:
            self.owners[column] = self.owners[came_from[column]]
            column = came_from[column]
        self.owners[column] = row


def settle(undos, dos, changes):
    """Return a pair (partners, paper) for the costs of undoing, of doing, and of changing.

    `changes` has a row of costs for each call there, a cost or None for each call here. The partners are, for each
    call there, the index of the call here that it is changed into, or None.
    """
    many = len(dos)
    rows = []
    for i, row in enumerate(changes):
        # A change spares the doing. The column behind those of all calls here is that of undoing this call.
        pairs = [(j, cost - dos[j]) for j, cost in enumerate(row) if cost is not None]
        rows.append([*pairs, (many + i, undos[i])])
    settling = Settling(rows, many + len(rows))
    for i in range(len(rows)):
        settling.take_row(i)
    partners = [None] * len(rows)
    for j in range(many):
        if j in settling.owners:
            partners[settling.owners[j]] = j
    lefts = [settling.row_prices[i] + settling.column_prices[many + i] for i in range(len(rows))]
    rights = [dos[j] + settling.column_prices[j] for j in range(many)]
    return (partners, (lefts, rights))
