"""Rows: lists of spots of a web, games that are played side by side, and the moves in them."""

from spotsums.errors import NoMove, NoRow
from spotsums.numbers import laid_over, numbers_of
from spotsums.webs import check_game, is_place

MOST_GAMES = 24


def moves_in(web, row):
    """All moves in the row, in order: tuples of the game's place and the spot to which it goes."""
    check_game(web)
    _check_row(web, row)
    return [(place, spot) for place in range(len(row)) for spot in sorted(web[row[place]])]


def played(web, row, move):
    """The row behind the move."""
    check_game(web)
    _check_row(web, row)
    if not _is_move(web, row, move):
        raise NoMove("a move is a tuple (place, spot): a place in the row, and where a move leads from there")
    place, spot = move
    behind = list(row)
    behind[place] = spot
    return behind


def row_number(web, row):
    """What the numbers of the row's spots come to, laid over one another."""
    # This looks at the web, and so stands ahead of the look at the row.
    numbers = numbers_of(web)
    _check_row(web, row)
    return laid_over([numbers[spot] for spot in row])


def _check_row(web, thing):
    """Refuse with NoRow what is no row of the web."""
    if not _is_row(web, thing):
        raise NoRow(f"a row is a list of 0 to {MOST_GAMES} spots of the web")


def _is_row(web, thing):
    """Whether the thing, which may be anything, is a row of the web."""
    if type(thing) is not list or len(thing) > MOST_GAMES:
        return False
    for spot in thing:
        if not is_place(spot, len(web)):
            return False
    return True


def _is_move(web, row, thing):
    """Whether the thing, which may be anything, is a move in the row."""
    if type(thing) is not tuple or len(thing) != 2:
        return False
    place, spot = thing
    return is_place(place, len(row)) and is_place(spot, len(web)) and spot in web[row[place]]
