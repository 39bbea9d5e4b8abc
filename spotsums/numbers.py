"""The numbers and the lengths of the spots of a web, and how numbers are laid over one another."""

from spotsums.webs import check_game, ended_spots


def numbers_of(web):
    """The number of each spot of the web."""
    check_game(web)
    numbers = [0] * len(web)
    for spot in ended_spots(web):
        numbers[spot] = _least_missing([numbers[move] for move in web[spot]])
    return numbers


def _least_missing(numbers):
    """The least whole number from 0 on that is none of these."""
    found = set(numbers)
    least = 0
    while least in found:
        least += 1
    return least


def lengths_of(web):
    """The length of each spot of the web: how many moves the longest play from it has."""
    check_game(web)
    lengths = [0] * len(web)
    for spot in ended_spots(web):
        lengths[spot] = max([lengths[move] + 1 for move in web[spot]], default=0)
    return lengths


def shown_moves(web, spot):
    """Moves that show the spot's number: at place k stands a spot with the number k."""
    numbers = numbers_of(web)
    showing = {numbers[move]: move for move in web[spot]}
    return [showing[number] for number in range(numbers[spot])]


def laid_over(numbers):
    """What the numbers, each a sum of unlike powers of two, come to, laid over one another."""
    total = 0
    for number in numbers:
        total = total ^ number
    return total
