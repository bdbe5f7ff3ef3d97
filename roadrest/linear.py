"""Linear equations in whole numbers."""


def cleared_row(row, pivot_row, place, before):
    """The row with nothing left at the place; the division by the pivot before leaves no remainder."""
    pivot = pivot_row[place]
    factor = row[place]
    return [(pivot * a - factor * b) // before for a, b in zip(row, pivot_row)]


def cleared(rows):
    """The same equations, each with one unknown alone.

    A row holds the factors of the unknowns, then what they come to. Row k answers with one
    factor, at k, the same in every row: unknown k is the row's last number by that factor.
    The factors must be symmetric and positive definite, so that no pivot is 0.
    """
    before = 1
    for place in range(len(rows)):
        pivot_row = rows[place]
        rows = [
            pivot_row if number == place else cleared_row(row, pivot_row, place, before)
            for number, row in enumerate(rows)
        ]
        before = pivot_row[place]
    return rows
