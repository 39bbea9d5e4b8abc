"""Webs: lists of spots, each the list of the spots to which a move leads from it."""

from spotsums.errors import NoWeb, Ringed, TooMany

MOST_SPOTS = 200


def is_web(thing):
    """Whether the thing, which may be anything, is a web. Rings are not looked at."""
    if type(thing) is not list or not 1 <= len(thing) <= MOST_SPOTS:
        return False
    for spot in thing:
        if not _is_spot(spot, len(thing)):
            return False
    return True


def _is_spot(thing, many):
    """Whether the thing is a spot of a web that has this many spots."""
    if type(thing) is not list:
        return False
    for move in thing:
        if not is_place(move, many):
            return False
    return len(set(thing)) == len(thing)


def is_place(thing, many):
    """Whether the thing, which may be anything, is one of this many places, counted from 0."""
    # The exact class is asked for, as True and False are no numbers.
    return type(thing) is int and 0 <= thing < many


def check_web(thing):
    """Refuse with NoWeb what is no web."""
    if not is_web(thing):
        raise NoWeb("a web is a list of 1 to 200 spots, each a list of unlike spots of the web")


def check_game(thing):
    """Refuse with NoWeb what is no web, then with Ringed a web that has a ring."""
    if ring_in(thing) is not None:
        raise Ringed("the web has a ring, so that play in it need not end")


def ring_in(web):
    """A ring of the web as a list of spots, or None where there is none."""
    check_web(web)
    ended = [False] * len(web)
    for spot in ended_spots(web):
        ended[spot] = True
    if False not in ended:
        return None
    walk = []
    spot = ended.index(False)
    while spot not in walk:
        walk.append(spot)
        # There is at least one: a spot whose moves all lead to ended ones has ended itself.
        onward = [move for move in web[spot] if not ended[move]]
        spot = onward[0]
    # The steps before this spot only lead into the ring.
    return walk[walk.index(spot):]


def ended_spots(web):
    """The spots from which all play ends, each behind those to which its moves lead."""
    sources = _sources(web)
    waiting = [len(moves) for moves in web]
    ended = [spot for spot in range(len(web)) if waiting[spot] == 0]
    looked_at = 0
    while looked_at < len(ended):
        spot = ended[looked_at]
        for source in sources[spot]:
            waiting[source] -= 1
            if waiting[source] == 0:
                ended.append(source)
        looked_at += 1
    return ended


def _sources(web):
    """For each spot the list of the spots from which a move leads to it."""
    sources = [[] for _ in web]
    for spot in range(len(web)):
        for move in web[spot]:
            sources[move].append(spot)
    return sources


def heap_web(most, takes):
    """The web of heaps from 0 beans to the most; each take is a move where there are beans enough."""
    return [[beans - take for take in takes if take <= beans] for beans in range(most + 1)]


def joined_webs(one, other):
    """The spots of the first web, then those of the second raised by the first's count."""
    check_web(one)
    check_web(other)
    _check_count(len(one) + len(other))
    raised = len(one)
    return [list(moves) for moves in one] + [[move + raised for move in moves] for moves in other]


def paired_web(one, other):
    """The web of both games side by side, with a spot for each spot of one and each of the other."""
    check_web(one)
    check_web(other)
    _check_count(len(one) * len(other))
    return [
        _paired_moves(one, other, left, right)
        for left in range(len(one))
        for right in range(len(other))
    ]


def _paired_moves(one, other, left, right):
    """The moves from the paired spot of this left and this right one."""
    many = len(other)
    moves = [move * many + right for move in one[left]]
    for move in other[right]:
        paired = left * many + move
        # Where both spots have a move to themselves, both games lead to the same paired spot,
        # and no spot of a web has a move twice.
        if paired not in moves:
            moves.append(paired)
    return moves


def _check_count(many):
    """Refuse with TooMany a web of so many spots."""
    if many > MOST_SPOTS:
        raise TooMany(f"a web has at most {MOST_SPOTS} spots, not {many}")
