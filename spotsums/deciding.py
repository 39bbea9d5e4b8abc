"""Which rows are lost, which moves win, and which rows stand for one another."""

from spotsums.numbers import laid_over, numbers_of
from spotsums.rows import moves_in, row_number


def is_lost(web, row):
    """Whether the row is lost for who is to move."""
    return row_number(web, row) == 0


def good_moves(web, row):
    """All moves in the row that lead to a lost one, in order."""
    total = row_number(web, row)
    numbers = numbers_of(web)
    return [
        (place, spot)
        for place, spot in moves_in(web, row)
        # A number laid over itself is gone: the total without the game where it was, with it where it goes.
        if laid_over([total, numbers[row[place]], numbers[spot]]) == 0
    ]


def parting_row(web, one, other):
    """A row that parts the two rows, or None where they stand for one another."""
    if row_number(web, one) == row_number(web, other):
        return None
    # Beside itself a row is lost, as its number is gone; beside the other one a number is left.
    return list(one)
