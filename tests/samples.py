"""What the tests of several files share: samples, checks, and plain ways to the same answers."""

import copy
import itertools
import random
import unittest

from spotsums.errors import GameError, NoRow, NoWeb, Ringed


def holding_itself():
    """A list that stands in itself."""
    thing = []
    thing.append(thing)
    return thing


class Pretender:
    """An object that says it is a list, and fails at whatever is done with it."""

    __class__ = list

    def __len__(self):
        raise RuntimeError("asked")

    __iter__ = __eq__ = __hash__ = __bool__ = __getitem__ = __len__


NO_LISTS = (None, True, False, 0, 1, 1.5, "", "web", b"web", (), ([],), ((),), {}, {0: []},
            set(), frozenset(), range(1), list, object(), Pretender(), iter([[]]), holding_itself)

NO_WEBS = NO_LISTS + (
    [],
    [[] for _ in range(201)],
    [[] for _ in range(1000)],
    # spots that are no lists
    [None], [0], [True], [""], ["0"], [()], [(0,)], [{}], [{0: 0}], [set()], [range(1)], [Pretender()],
    [[], None], [[], (0,)], [[1], [], 0],
    # moves that are no numbers
    [[True], []], [[False]], [[], [False]], [[], [0, True]], [[None]], [["0"]], [[[]]], [[[0]]], [[(0,)]],
    [[0.0]], [[{}]], [[0, None]], [[1, "0"], []], [[Pretender()]], holding_itself(),
    # moves to no spot of the web
    [[-1]], [[], [0, -1]], [[-2], []], [[1]], [[], [2]], [[0, 2], []], [[3], [], []], [[10 ** 30]], [[-10 ** 30]],
    [[200]] + [[] for _ in range(199)], [[] for _ in range(199)] + [[0, 200]],
    # moves that stand twice
    [[0, 0]], [[1, 1], []], [[], [0, 1, 0]], [[2, 1, 2], [], []], [[], [], [0, 1, 1]], [[0, 1, 2, 0], [], []],
    [[1, 2, 3, 2], [], [], []], [[0, 1, 2, 3, 3], [], [], []], [[0], [0, 0]],
    [[] for _ in range(199)] + [list(range(200)) + [0]],
)

RINGED = (
    [[0]],
    [[1], [0]],
    [[1], [2], [0]],
    # rings beside spots and ways from which all play ends
    [[], [1]],
    [[0], []],
    [[], [0, 1]],
    [[1, 0], []],
    [[1, 2], [0], []],
    [[], [2], [1]],
    [[], [0, 2], [1, 0], [0]],
    [[1], [2], [3], [1]],
    [[1, 3], [2], [0, 3], []],
    [[2], [0, 2], [3, 4], [1], []],
    # several rings
    [[0], [1]],
    [[1, 0], [0, 1]],
    [[2]] * 3,
    [[]] * 199 + [[199]],
    [[(k + 1) % 200] for k in range(200)],
    [list(range(200)) for _ in range(200)],
)

# A web with the numbers 0, 1, 2, 0, 1 for its spots, and a spot whose moves stand in no order.
FIVE = [[], [0], [1, 0], [2], [3, 2]]


def no_rows(many):
    """Things that are no row of a web of this many spots."""
    wrong_spots = (None, True, False, "", "0", 0.0, [], [0], (), (0,), {}, object(), Pretender(),
                   -1, -2, -many, many, many + 1, 10 ** 30, -10 ** 30)
    return (
        NO_LISTS
        + (0.0, "0", b"0", (0,), (0, 0), {0: 0}, {0}, range(many), iter([0]), holding_itself(), float("nan"))
        + tuple([spot] for spot in wrong_spots)
        + tuple([0, spot] for spot in wrong_spots)
        + tuple([spot, 0, 0] for spot in wrong_spots)
        + tuple([0] * 23 + [spot] for spot in wrong_spots)
        + ([0] * 25, [many - 1] * 25, [0] * 26, [0] * 200, [None] * 25)
    )


def no_moves(web, row):
    """Things that are no move in the row of the web; from its first spot a move leads to spot 0."""
    many = len(row)
    return NO_LISTS + (
        # no tuples of two
        [0, 0], [], [[0, 0]], "00", b"00", {0: 0}, {0, 1}, (0,), (0, 0, 0), ((0, 0),), ((0, 0), (0, 0)), range(2),
        [(0, 0)], holding_itself(),
        # no numbers
        (False, 0), (0, False), (False, False), (True, 0), (0, True), (None, 0), (0, None), (None, None),
        ("0", 0), (0, "0"), (0.0, 0), (0, 0.0), ([0], 0), (0, [0]), ((0,), 0), (0, ()), (0, Pretender()),
        (Pretender(), 0), (0, holding_itself()), (float("nan"), 0),
        # places outside of the row
        (-1, 0), (-many, 0), (many, 0), (many + 1, 0), (10 ** 30, 0), (-10 ** 30, 0),
        # no spots of the web
        (0, -1), (0, -len(web)), (0, len(web)), (0, 10 ** 30), (0, -10 ** 30),
    )


def ringless_web(chance, many):
    """A web without rings by chance, whose spots and moves stand in any order."""
    order = chance.sample(range(many), many)
    web = [[] for _ in range(many)]
    for at in range(many):
        web[order[at]] = chance.sample(order[:at], chance.randint(0, at))
    return web


def ringless_webs():
    """All webs of up to three spots without a ring, each with one order of its moves, and some greater ones."""
    webs = []
    for many in (1, 2, 3):
        spots = [list(moves)[::-1] for size in range(many) for moves in itertools.combinations(range(many), size)]
        webs.extend([list(web) for web in itertools.product(spots, repeat=many) if all_play_ends(web)])
    chance = random.Random(5)
    webs.extend([ringless_web(chance, many) for many in (4, 4, 4, 5, 5, 5, 6, 6) for _ in range(6)])
    return webs


def all_play_ends(web):
    """Whether no play in the web goes on for as many moves as it has spots."""
    reached = set(range(len(web)))
    for _ in web:
        reached = {move for spot in reached for move in web[spot]}
    return not reached


def rows_up_to(web, most):
    """All rows of the web with this many spots at the most, each in the order of its spots."""
    return [list(row) for many in range(most + 1)
            for row in itertools.combinations_with_replacement(range(len(web)), many)]


class Meaning:
    """Which rows of a web are lost by the meaning of the word: no number is used."""

    def __init__(self, web):
        self.web = web
        self.found = {}

    def is_lost(self, row):
        row = tuple(sorted(row))
        if row not in self.found:
            self.found[row] = all(not self.is_lost(behind) for behind in self.behind(row))
        return self.found[row]

    def behind(self, row):
        """The rows to which a move leads."""
        return [row[:at] + (move,) + row[at + 1:] for at in range(len(row)) for move in self.web[row[at]]]


def powers_laid_over(numbers):
    """The sum of the powers of two that stand in an odd count of the numbers."""
    total = 0
    power = 1
    while power <= max(numbers, default=0):
        count = sum(1 for number in numbers if number // power % 2 == 1)
        total += power * (count % 2)
        power *= 2
    return total


def told_lists(thing):
    """The list told and the lists within it."""
    return [thing] + [item for item in thing if isinstance(item, list)]


def lists_in(things):
    """The lists among the things handed in and those within them, each once: a web may hold one list twice."""
    found = []
    for thing in things:
        if isinstance(thing, list):
            for part in told_lists(thing):
                if not any(part is other for other in found):
                    found.append(part)
    return found


def spoil(parts):
    """Change each of the lists."""
    for part in parts:
        part.append("spoilt")
        part.reverse()


class AskedTest(unittest.TestCase):
    """What holds for each function, in the words of point 1, and what several refuse."""

    def check_own(self, ask, *handed):
        """A told list is the asker's own, and what is handed in stays as it is."""
        before = copy.deepcopy(handed)
        first = ask(*handed)
        self.assertEqual(handed, before)
        wanted = copy.deepcopy(first)
        again = ask(*handed)
        self.assertEqual(again, wanted)
        self.check_unlike(told_lists(first) + told_lists(again) + lists_in(handed))
        spoil(told_lists(again))
        self.assertEqual(first, wanted)
        self.assertEqual(handed, before)
        self.assertEqual(ask(*handed), wanted)
        spoil(lists_in(handed))
        self.assertEqual(first, wanted)
        self.assertEqual(ask(*copy.deepcopy(before)), wanted)

    def check_unlike(self, parts):
        for one, other in itertools.combinations(parts, 2):
            if one is other:
                self.fail("a told list stands twice")

    def check_unchanged(self, ask, *handed):
        """What is handed in stays as it is, told or refused."""
        before = copy.deepcopy(handed)
        try:
            ask(*handed)
        except GameError:
            pass
        self.assertEqual(handed, before)

    def check_moves(self, told, wanted):
        """The moves told are just these, in this order, as tuples of two numbers."""
        self.assertEqual(told, wanted)
        self.assertIs(type(told), list)
        for move in told:
            self.assertIs(type(move), tuple)
            self.assertEqual([type(part) for part in move], [int, int])

    def check_refuses_webs(self, ask, *rest):
        """No webs are refused with NoWeb and ringed webs with Ringed, whatever else is handed in."""
        for at, thing in enumerate(NO_WEBS):
            with self.subTest("no web", at=at, rest=rest):
                with self.assertRaises(NoWeb):
                    ask(thing, *rest)
        for web in RINGED:
            with self.subTest("ringed", web=web, rest=rest):
                with self.assertRaises(Ringed):
                    ask(web, *rest)
                self.check_unchanged(ask, web, *rest)

    def check_refuses_rows(self, ask, *rest):
        """No rows are refused with NoRow, whatever else is handed in behind them."""
        great = [[] for _ in range(199)] + [[0, 7]]
        for web in ([[]], FIVE, [[]] * 3, great):
            for at, thing in enumerate(no_rows(len(web))):
                with self.subTest("no row", many=len(web), at=at, rest=rest):
                    with self.assertRaises(NoRow):
                        ask(web, thing, *rest)
        for thing in ([True, 1], [-1], [5], [0] * 25):
            self.check_unchanged(ask, copy.deepcopy(FIVE), thing, *rest)
