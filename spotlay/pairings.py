"""Pairings of the rows of a table with its columns, and prices that show them least."""


def pairing(table):
    """Tell the least sum, a pairing that has it, and prices, left and right, that together are the sum."""
    left = [0 for row in table]
    right = [0 for row in table]
    # The row of each column that is paired so far.
    owners = [None for row in table]
    for row in range(len(table)):
        pair_row(table, row, left, right, owners)
    columns = tuple([owners.index(row) for row in range(len(table))])
    return sum(left) + sum(right), columns, left, right


def pair_row(table, start, left, right, owners):
    """Pair one more row: the prices stay prices, and those of a row and its column are the number there."""
    rows = []
    reached = {}
    unreached = list(range(len(table)))
    row = start
    # This ends: fewer rows than columns are paired, so that some column has no owner.
    while row is not None:
        rows.append(row)
        gap, near, column = least_gap(table, left, right, rows, unreached)
        # The first gap, perhaps below 0, makes a price of the new row's 0; behind it,
        # raised on the one side and lowered on the other, pairs stay at their numbers.
        for raised in rows:
            left[raised] += gap
        for lowered in reached:
            right[lowered] -= gap
        reached[column] = near
        unreached.remove(column)
        row = owners[column]
    hand_over(start, column, reached, owners)


def least_gap(table, left, right, rows, columns):
    """Tell the least of the gaps between two prices and the number there, with its row and column."""
    return min([(table[row][column] - left[row] - right[column], row, column) for row in rows for column in columns])


def hand_over(start, column, reached, owners):
    """Give each column, from one without an owner back to the start, to the row that it was reached from."""
    while reached[column] != start:
        row = reached[column]
        given_up = owners.index(row)
        owners[column] = row
        column = given_up
    owners[column] = start


def are_prices(table, number, left, right):
    """Tell of anybody's two lists whether they are prices of the table that together are the number or more."""
    if len(left) != len(table) or len(right) != len(table):
        return False
    for price, row in zip(left, table):
        if any(price + other > there for other, there in zip(right, row)):
            return False
    return sum(left) + sum(right) >= number
