"""Tests of spotsums/numbers.py."""

import copy
import itertools
import random

from spotsums.numbers import laid_over, lengths_of, numbers_of, shown_moves
from spotsums.webs import heap_web, joined_webs, paired_web
from tests.samples import FIVE, AskedTest, powers_laid_over, ringless_web, ringless_webs


def shuffled(web, seed):
    """The web with its spots and their moves in another order, and for each old spot its new one."""
    chance = random.Random(seed)
    new = chance.sample(range(len(web)), len(web))
    other = [[] for _ in web]
    for spot, moves in enumerate(web):
        other[new[spot]] = [new[move] for move in chance.sample(moves, len(moves))]
    return other, new


# The longest line, each spot before and behind the one to which its move leads.
LINE = [[]] + [[k] for k in range(199)]
LINE_AHEAD = [[k + 1] for k in range(199)] + [[]]
# All moves that may be without a ring.
ALL_MOVES = [list(range(k)) for k in range(200)]
ALL_MOVES_AHEAD = [list(range(k + 1, 200)) for k in range(200)]

# A web, its numbers, its lengths.
KNOWN = (
    ([[]], [0], [0]),
    ([[], []], [0, 0], [0, 0]),
    ([[1], []], [1, 0], [1, 0]),
    ([[], [0]], [0, 1], [0, 1]),
    ([[1, 2], [2], []], [2, 1, 0], [2, 1, 0]),
    ([[2, 1], [2], []], [2, 1, 0], [2, 1, 0]),
    ([[1], [2], []], [0, 1, 0], [2, 1, 0]),
    ([[2], [], [1]], [0, 0, 1], [2, 0, 1]),
    ([[1, 2], [], []], [1, 0, 0], [1, 0, 0]),
    # a gap: the moves lead to the numbers 1 and 2, or to 0 and 2
    ([[], [0], [0, 1], [1, 2], [0, 2]], [0, 1, 2, 0, 1], [0, 1, 2, 3, 3]),
    # the longest play isn't by the first move, nor by the last
    ([[1, 2, 3], [], [4], [], [1]], [1, 0, 0, 0, 1], [3, 0, 2, 0, 1]),
    (FIVE, [0, 1, 2, 0, 1], [0, 1, 2, 3, 4]),
    ([[]] * 3, [0, 0, 0], [0, 0, 0]),
    ([[2], [2], []], [1, 1, 0], [1, 1, 0]),
    ([[] for _ in range(200)], [0] * 200, [0] * 200),
    (LINE, [0, 1] * 100, list(range(200))),
    (LINE_AHEAD, [1, 0] * 100, list(range(199, -1, -1))),
    (ALL_MOVES, list(range(200)), list(range(200))),
    (ALL_MOVES_AHEAD, list(range(199, -1, -1)), list(range(199, -1, -1))),
    ([moves[::-1] for moves in ALL_MOVES], list(range(200)), list(range(200))),
    (heap_web(199, [2, 1, 3]), [0, 1, 2, 3] * 50, list(range(200))),
    (heap_web(9, [1, 3, 4]), [0, 1, 0, 1, 2, 3, 2, 0, 1, 0], list(range(10))),
    (heap_web(7, [2]), [0, 0, 1, 1, 0, 0, 1, 1], [0, 0, 1, 1, 2, 2, 3, 3]),
    (heap_web(5, []), [0] * 6, [0] * 6),
)


def great_webs():
    """Webs by chance with many spots, up to 200."""
    chance = random.Random(200)
    return [ringless_web(chance, many) for many in (10, 20, 30, 60, 100, 199, 200)]


class SpotsTest(AskedTest):
    """What the functions over all spots of a web have in common."""

    def check_numbers(self, told, wanted):
        self.assertEqual(told, wanted)
        self.assertIs(type(told), list)
        for number in told:
            self.assertIs(type(number), int)

    def test_known_webs(self):
        for web, numbers, lengths in KNOWN:
            with self.subTest(web):
                self.check_numbers(numbers_of(web), numbers)
                self.check_numbers(lengths_of(web), lengths)

    def test_spots_and_moves_in_any_order(self):
        for (web, numbers, lengths), seed in itertools.product(KNOWN, range(4)):
            other, new = shuffled(web, seed)
            with self.subTest(other):
                told = numbers_of(other)
                self.check_numbers([told[new[spot]] for spot in range(len(web))], numbers)
                told = lengths_of(other)
                self.check_numbers([told[new[spot]] for spot in range(len(web))], lengths)

    def test_refused_webs(self):
        for ask in (numbers_of, lengths_of):
            with self.subTest(ask):
                self.check_refuses_webs(ask)

    def test_told_and_handed_in(self):
        for ask in (numbers_of, lengths_of):
            for web in ([[]], [[1], []], FIVE, [[]] * 3, heap_web(9, [2, 1]), [[k + 1] for k in range(9)] + [[]]):
                with self.subTest(ask, web=web):
                    self.check_own(ask, copy.deepcopy(web))

    def test_nothing_is_kept(self):
        web = [[], [0]]
        self.assertEqual(numbers_of(web), [0, 1])
        self.assertEqual(lengths_of(web), [0, 1])
        web[1].remove(0)
        self.assertEqual(numbers_of(web), [0, 0])
        self.assertEqual(lengths_of(web), [0, 0])
        web.append([1])
        self.assertEqual(numbers_of(web), [0, 0, 1])
        self.assertEqual(lengths_of(web), [0, 0, 1])


class NumbersOfTest(AskedTest):
    def check_web(self, web):
        numbers = numbers_of(web)
        self.assertEqual(len(numbers), len(web))
        for spot, moves in enumerate(web):
            led_to = [numbers[move] for move in moves]
            self.assertIs(type(numbers[spot]), int)
            self.assertNotIn(numbers[spot], led_to)
            for lesser in range(numbers[spot]):
                self.assertIn(lesser, led_to)
            if not moves:
                self.assertEqual(numbers[spot], 0)

    def test_webs_by_chance(self):
        for web in ringless_webs() + great_webs():
            with self.subTest(web):
                self.check_web(web)

    def test_joined_webs_keep_their_numbers(self):
        webs = [[[]], [[1], []], FIVE, heap_web(6, [1, 3]), heap_web(100, [4, 2, 1])]
        for one, other in itertools.product(webs[:-1], webs):
            with self.subTest(one=one, other=other):
                self.assertEqual(numbers_of(joined_webs(one, other)), numbers_of(one) + numbers_of(other))
                self.assertEqual(lengths_of(joined_webs(one, other)), lengths_of(one) + lengths_of(other))

    def test_paired_webs_have_their_numbers_laid_over_one_another(self):
        webs = [[[]], [[1], []], FIVE, heap_web(11, [3, 1, 2]), heap_web(8, [1, 3, 4])] + ringless_webs()[-20:]
        for one, other in itertools.product(webs, repeat=2):
            with self.subTest(one=one, other=other):
                numbers = [powers_laid_over([left, right]) for left in numbers_of(one) for right in numbers_of(other)]
                lengths = [left + right for left in lengths_of(one) for right in lengths_of(other)]
                self.assertEqual(numbers_of(paired_web(one, other)), numbers)
                self.assertEqual(lengths_of(paired_web(one, other)), lengths)


class LengthsOfTest(AskedTest):
    def test_webs_by_chance(self):
        for web in ringless_webs() + great_webs():
            with self.subTest(web):
                lengths = lengths_of(web)
                self.assertEqual(len(lengths), len(web))
                for spot, moves in enumerate(web):
                    self.assertIs(type(lengths[spot]), int)
                    self.assertEqual(lengths[spot], 1 + max([lengths[move] for move in moves], default=-1))


class ShownMovesTest(AskedTest):
    def check_spots(self, web):
        numbers = numbers_of(web)
        for spot in range(len(web)):
            shown = shown_moves(web, spot)
            self.assertIs(type(shown), list)
            self.assertEqual([numbers[move] for move in shown], list(range(numbers[spot])))
            for move in shown:
                self.assertIs(type(move), int)
                self.assertIn(move, web[spot])

    def test_known_webs(self):
        for web, numbers, _ in KNOWN:
            if len(web) < 200:
                with self.subTest(web):
                    self.check_spots(web)

    def test_webs_by_chance(self):
        for web in ringless_webs() + great_webs()[:4]:
            with self.subTest(web):
                self.check_spots(web)

    def test_where_only_one_list_shows_it(self):
        for web, spot, shown in (
            ([[]], 0, []),
            ([[], [0]], 1, [0]),
            ([[], [0], [1, 0]], 2, [0, 1]),
            ([[1, 2], [2], []], 0, [2, 1]),
            # moves that show nothing: to the number 2, from the number 1 and from 0
            ([[], [0], [0, 1], [2, 0], [2, 1]], 3, [0]),
            ([[], [0], [0, 1], [2, 0], [2, 1]], 4, []),
            ([[]] * 3, 2, []),
            (LINE, 198, []),
            (LINE, 199, [198]),
            (LINE_AHEAD, 0, [1]),
            (ALL_MOVES, 0, []),
            (ALL_MOVES, 199, list(range(199))),
            (ALL_MOVES_AHEAD, 0, list(range(199, 0, -1))),
            (ALL_MOVES_AHEAD, 199, []),
        ):
            with self.subTest(web=web, spot=spot):
                self.assertEqual(shown_moves(web, spot), shown)

    def test_where_several_lists_show_it(self):
        web = [[], [], [0], [1], [3, 1, 2, 0]]
        first, second = shown_moves(web, 4)
        self.assertIn(first, (0, 1))
        self.assertIn(second, (2, 3))

    def test_refused_webs(self):
        for spot in (0, 1, None, "0", -1, 500):
            self.check_refuses_webs(shown_moves, spot)

    def test_told_and_handed_in(self):
        for web, spot in (([[]], 0), ([[], [0]], 1), (FIVE, 2), (FIVE, 4), (heap_web(5, [1, 2, 3, 4, 5]), 5)):
            with self.subTest(web=web, spot=spot):
                self.check_own(shown_moves, copy.deepcopy(web), spot)

    def test_a_spot_all_of_whose_moves_show(self):
        # What is told equals the list that was handed in, and is another one.
        web = [[], [0], [0, 1], [0, 1, 2]]
        for spot in range(4):
            self.assertEqual(shown_moves(web, spot), web[spot])
            self.check_own(shown_moves, copy.deepcopy(web), spot)

    def test_nothing_is_kept(self):
        web = [[], [0], [1]]
        self.assertEqual(shown_moves(web, 2), [])
        web[2].append(0)
        self.assertEqual(shown_moves(web, 2), [0, 1])
        web[1].clear()
        self.assertEqual(len(shown_moves(web, 2)), 1)


class LaidOverTest(AskedTest):
    def check_laid_over(self, numbers, wanted):
        told = laid_over(numbers)
        self.assertEqual(told, wanted)
        self.assertIs(type(told), int)

    def test_known_numbers(self):
        for numbers, wanted in (
            ([], 0),
            ([0], 0), ([1], 1), ([2], 2), ([3], 3), ([1000], 1000),
            ([0, 0], 0), ([1, 1], 0), ([7, 7], 0), ([12345, 12345], 0),
            ([5, 5, 5], 5), ([5, 5, 5, 5], 0),
            ([0, 6], 6), ([6, 0], 6),
            ([1, 2], 3), ([1, 3], 2), ([2, 3], 1), ([1, 2, 3], 0),
            ([3, 5], 6), ([5, 6], 3), ([4, 7], 3), ([9, 6], 15), ([12, 10], 6), ([3, 4, 5], 2),
            ([1, 2, 4, 8, 16], 31), ([8, 7], 15), ([255, 256], 511), ([100, 99], 7),
        ):
            for ordered in itertools.permutations(numbers):
                with self.subTest(ordered):
                    self.check_laid_over(list(ordered), wanted)

    def test_all_small_numbers(self):
        for many in range(4):
            for numbers in itertools.product(range(9), repeat=many):
                with self.subTest(numbers):
                    self.check_laid_over(list(numbers), powers_laid_over(numbers))

    def test_numbers_of_sixty_figures_and_more(self):
        chance = random.Random(60)
        for figures in (1, 5, 9, 10, 18, 19, 20, 59, 60, 61, 100, 200):
            numbers = [chance.randint(10 ** (figures - 1), 10 ** figures - 1) for _ in range(chance.randint(1, 9))]
            with self.subTest(numbers):
                self.check_laid_over(numbers, powers_laid_over(numbers))
                self.check_laid_over(numbers + [1], powers_laid_over(numbers + [1]))
                self.check_laid_over(numbers + numbers[::-1], 0)
                self.check_laid_over(numbers[:1] * 3, numbers[0])

    def test_one_great_number(self):
        for number in (2 ** 200, 2 ** 200 - 1, 10 ** 60, 10 ** 60 - 1):
            with self.subTest(number):
                self.check_laid_over([number], number)
                self.check_laid_over([number, number], 0)
                self.check_laid_over([number, 0], number)

    def test_many_numbers(self):
        self.check_laid_over(list(range(1000)), 0)
        self.check_laid_over(list(range(1001)), 1000)
        self.check_laid_over([1] * 10001, 1)

    def test_handed_in(self):
        for numbers in ([], [0], [3, 1, 2], [5, 5], [10 ** 60, 7]):
            self.check_unchanged(laid_over, numbers)
        numbers = [4, 1]
        self.check_laid_over(numbers, 5)
        numbers.append(1)
        self.check_laid_over(numbers, 4)
