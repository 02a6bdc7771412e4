"""The determinant of a square table of polynomials."""

from circuitsdesk.polynomials import exact_quotient, minus, scaled, times


def leading_row(rows):
    """The place of the first row that doesn't begin with 0, or None."""
    for place, row in enumerate(rows):
        if len(row[0]) > 0:
            return place
    return None


def without_first(row, leader, divisor):
    """The row less so much of the leader that its first entry falls away, over the divisor."""
    reduced = []
    for place in range(1, len(row)):
        entry = minus(times(leader[0], row[place]), times(row[0], leader[place]))
        reduced.append(exact_quotient(entry, divisor))
    return reduced


def determinant(table):
    """The determinant; 1 where the table is empty."""
    rows = table
    sign = 1
    # Divided by the leading entry of the step before, which comes out even, all entries stay
    # determinants of parts of the table: no fraction is needed, and none grows beyond that.
    divisor = [1]
    while len(rows) > 0:
        place = leading_row(rows)
        if place is None:
            return []
        leader = rows[place]
        # To the top it passes that many rows, and each passing turns the sign.
        if place % 2 == 1:
            sign = -sign
        rows = [without_first(row, leader, divisor) for row in rows[:place] + rows[place + 1:]]
        divisor = leader[0]
    return scaled(divisor, sign)
