"""Tests of spotsums/deciding.py."""

import copy
import itertools
import random

from spotsums.deciding import good_moves, is_lost, parting_row
from spotsums.errors import NoRow
from spotsums.numbers import numbers_of
from spotsums.rows import moves_in, played, row_number
from spotsums.webs import heap_web, joined_webs, paired_web
from tests.samples import (FIVE, AskedTest, Meaning, no_rows, powers_laid_over, ringless_web, ringless_webs,
                           rows_up_to)

HEAPS = heap_web(100, list(range(1, 101)))
ALL_MOVES = [list(range(k)) for k in range(200)]


def great_rows():
    """Webs of up to 200 spots with some rows of up to 24 spots each."""
    chance = random.Random(2400)
    return [(web, [[chance.randrange(len(web)) for _ in range(many)] for many in (0, 1, 3, 23, 24)])
            for web in [ringless_web(chance, many) for many in (7, 30, 200)] + [HEAPS, heap_web(199, [5, 2, 1])]]


class IsLostTest(AskedTest):
    def check_lost(self, web, row, wanted):
        self.assertIs(is_lost(web, row), wanted)

    def test_known_rows(self):
        for web, row, lost in (
            ([[]], [], True),
            ([[]], [0], True),
            ([[]], [0] * 24, True),
            ([[1], []], [], True),
            ([[1], []], [0], False),
            ([[1], []], [1], True),
            ([[1], []], [0, 0], True),
            ([[1], []], [0, 1, 0, 0], False),
            ([[1], []], [0] * 24, True),
            ([[1], []], [0] * 23, False),
            (FIVE, [0], True), (FIVE, [1], False), (FIVE, [2], False), (FIVE, [3], True), (FIVE, [4], False),
            (FIVE, [1, 4], True), (FIVE, [1, 2], False), (FIVE, [4, 1, 2, 2, 3], True),
            (HEAPS, [1, 2, 3], True), (HEAPS, [3, 5, 6], True), (HEAPS, [3, 5, 7], False), (HEAPS, [100, 99], False),
            (heap_web(20, [1, 2, 3]), [20], True), (heap_web(20, [1, 2, 3]), [19], False),
            (ALL_MOVES, [199, 199], True), (ALL_MOVES, [199, 198], False),
        ):
            with self.subTest(web=web, row=row):
                self.check_lost(web, row, lost)

    def test_small_webs_by_the_meaning_of_the_word(self):
        for web in ringless_webs():
            meaning = Meaning(web)
            for row in rows_up_to(web, 4 if len(web) < 4 else 3):
                with self.subTest(web=web, row=row):
                    self.check_lost(web, row, meaning.is_lost(row))
                    self.check_lost(web, row[::-1], meaning.is_lost(row))

    def test_webs_of_webs_by_the_meaning_of_the_word(self):
        for web in (heap_web(6, [2, 3]), joined_webs(FIVE, [[1, 2], [2], []]), paired_web([[1], [2], []], FIVE)):
            meaning = Meaning(web)
            for row in rows_up_to(web, 2):
                with self.subTest(web=web, row=row):
                    self.check_lost(web, row, meaning.is_lost(row))

    def test_a_paired_spot_stands_for_both_spots(self):
        one, other = FIVE, heap_web(5, [1, 3])
        joined, paired = joined_webs(one, other), paired_web(one, other)
        for left, right in itertools.product(range(len(one)), range(len(other))):
            with self.subTest(left=left, right=right):
                lost = is_lost(joined, [left, len(one) + right])
                self.check_lost(paired, [left * len(other) + right], lost)

    def test_refusals(self):
        for row in ([], [0], [500], [True], None, [0] * 25):
            self.check_refuses_webs(is_lost, row)
        self.check_refuses_rows(is_lost)

    def test_handed_in(self):
        for web, row in (([[]], []), (FIVE, [4, 2]), (FIVE, [2, 1, 0, 2])):
            self.check_unchanged(is_lost, copy.deepcopy(web), row)

    def test_nothing_is_kept(self):
        web = [[], [0], [1]]
        row = [2, 1]
        self.check_lost(web, row, False)
        row.append(1)
        self.check_lost(web, row, True)
        web[2].append(0)
        self.check_lost(web, row, False)


class GoodMovesTest(AskedTest):
    def test_known_rows(self):
        for web, row, moves in (
            ([[]], [], []),
            ([[]], [0], []),
            ([[1], []], [0], [(0, 1)]),
            ([[1], []], [1], []),
            ([[1], []], [0, 0], []),
            ([[1], []], [0, 1, 0, 0], [(0, 1), (2, 1), (3, 1)]),
            ([[1], []], [0] * 23, [(place, 1) for place in range(23)]),
            ([[1], []], [0] * 24, []),
            (FIVE, [2], [(0, 0)]),
            (FIVE, [4], [(0, 3)]),
            (FIVE, [1, 2], [(1, 1)]),
            # a move to a greater number
            (FIVE, [3, 2], [(0, 2), (1, 0)]),
            (FIVE, [2, 3, 2, 2], [(0, 0), (1, 2), (2, 0), (3, 0)]),
            (HEAPS, [3, 5, 7], [(0, 2), (1, 4), (2, 6)]),
            (HEAPS, [1, 2, 3], []),
            (HEAPS, [100, 99], [(0, 99)]),
            (HEAPS, [50, 0, 50, 9], [(3, 0)]),
            # the web tells the moves in another order
            ([[2, 1], [], []], [0, 0, 0], [(0, 1), (0, 2), (1, 1), (1, 2), (2, 1), (2, 2)]),
            ([[3, 2, 1], [], [1], []], [0, 2, 2], [(0, 1), (0, 3)]),
            ([[10, 9, 2, 1]] + [[]] * 10, [0], [(0, 1), (0, 2), (0, 9), (0, 10)]),
            (ALL_MOVES, [199, 0, 5], [(0, 5)]),
        ):
            with self.subTest(web=web, row=row):
                self.check_moves(good_moves(web, row), moves)

    def test_small_webs_by_the_meaning_of_the_word(self):
        for web in ringless_webs():
            meaning = Meaning(web)
            for row in rows_up_to(web, 3 if len(web) < 5 else 2):
                for ordered in (row, row[::-1]):
                    with self.subTest(web=web, row=ordered):
                        good = [move for move in moves_in(web, ordered) if meaning.is_lost(played(web, ordered, move))]
                        self.check_moves(good_moves(web, ordered), good)
                        self.assertEqual(good == [], meaning.is_lost(row))

    def test_great_rows(self):
        for web, rows in great_rows():
            numbers = numbers_of(web)
            for row in rows:
                with self.subTest(web=web, row=row):
                    good = [(place, spot) for place, spot in moves_in(web, row)
                            if powers_laid_over([numbers[k] for k in row[:place] + [spot] + row[place + 1:]]) == 0]
                    self.check_moves(good_moves(web, row), good)
                    self.assertEqual(good == [], is_lost(web, row))

    def test_refusals(self):
        for row in ([], [0], [500], [True], None, [0] * 25):
            self.check_refuses_webs(good_moves, row)
        self.check_refuses_rows(good_moves)

    def test_told_and_handed_in(self):
        for web, row in (([[]], []), ([[1], []], [0]), (FIVE, [3, 2]), ([[2, 1], [], []], [0, 0, 0])):
            with self.subTest(web=web, row=row):
                self.check_own(good_moves, copy.deepcopy(web), row)

    def test_a_row_that_is_a_spot_of_the_web(self):
        web = copy.deepcopy(FIVE)
        self.assertEqual(good_moves(web, web[4]), [(0, 2), (1, 0)])
        self.check_own(good_moves, web, web[4])

    def test_nothing_is_kept(self):
        web = [[], [0], [1]]
        row = [1]
        self.assertEqual(good_moves(web, row), [(0, 0)])
        row.append(1)
        self.assertEqual(good_moves(web, row), [])
        row[1] = 2
        self.assertEqual(good_moves(web, row), [(0, 0), (1, 1)])
        web[2].append(0)
        self.assertEqual(good_moves(web, row), [(1, 1)])


class PartingRowTest(AskedTest):
    def check_row(self, web, one, other):
        """A row of no more spots than the longer one of both, or None."""
        told = parting_row(web, one, other)
        if told is not None:
            self.assertIs(type(told), list)
            self.assertLessEqual(len(told), max(len(one), len(other)))
            for spot in told:
                self.assertIs(type(spot), int)
                self.assertIn(spot, range(len(web)))
        return told

    def check_parts(self, web, one, other):
        told = self.check_row(web, one, other)
        self.assertIsNotNone(told)
        beside = [powers_laid_over([row_number(web, row), row_number(web, told)]) for row in (one, other)]
        self.assertEqual(beside.count(0), 1)

    def test_rows_that_stand_for_one_another(self):
        for web, one, other in (
            ([[]], [], []),
            ([[]], [], [0]),
            ([[]], [0], []),
            ([[]], [0, 0], [0]),
            ([[]], [0] * 24, []),
            ([[1], []], [0, 0], []),
            ([[1], []], [1], [0, 0]),
            ([[1], []], [0] * 24, [0] * 22 + [1, 1]),
            (FIVE, [1], [4]),
            (FIVE, [3], [0]),
            (FIVE, [2, 2, 1], [0, 4]),
            (FIVE, [1, 2], [2, 1]),
            (FIVE, [1, 2], [1, 2]),
            (FIVE, [3], []),
            (HEAPS, [1, 2], [3]),
            (HEAPS, [3], [7, 4]),
            (HEAPS, [60] * 23 + [5], [60, 5]),
        ):
            with self.subTest(web=web, one=one, other=other):
                self.assertIs(parting_row(web, one, other), None)

    def test_rows_that_are_parted(self):
        for web, one, other in (
            ([[1], []], [0], []),
            ([[1], []], [], [0]),
            ([[1], []], [0], [1]),
            ([[1], []], [1], [0]),
            ([[1], []], [0, 0], [0]),
            ([[1], []], [0] * 24, [0] * 23),
            ([[1], []], [0] * 23 + [1], [0] * 24),
            (FIVE, [1], [2]),
            (FIVE, [2], [1]),
            (FIVE, [1], []),
            (FIVE, [], [1, 2, 3]),
            (FIVE, [1, 2], [2]),
            (FIVE, [3, 0], [1, 2]),
            (HEAPS, [100], [99]),
            (HEAPS, [1, 2], [3, 0, 1]),
            (HEAPS, [60] * 24, [60] * 23 + [59]),
            (HEAPS, [64, 32, 16, 8, 4, 2, 1], []),
            (HEAPS, [], [64, 32, 16, 8, 4, 2, 1]),
            (ALL_MOVES, [199], [198]),
        ):
            with self.subTest(web=web, one=one, other=other):
                self.check_parts(web, one, other)

    def test_small_webs_by_the_meaning_of_the_word(self):
        for web in ringless_webs()[::3]:
            meaning = Meaning(web)
            beside = rows_up_to(web, 2)
            for one, other in itertools.product(rows_up_to(web, 2), repeat=2):
                with self.subTest(web=web, one=one, other=other):
                    told = self.check_row(web, one, other)
                    unlike = [row for row in beside if meaning.is_lost(one + row) != meaning.is_lost(other + row)]
                    if told is None:
                        self.assertEqual(unlike, [])
                    else:
                        self.assertIn(sorted(told), unlike)

    def test_great_rows(self):
        for web, rows in great_rows():
            for one, other in itertools.product(rows, repeat=2):
                with self.subTest(web=web, one=one, other=other):
                    if row_number(web, one) == row_number(web, other):
                        self.assertIs(parting_row(web, one, other), None)
                    else:
                        self.check_parts(web, one, other)

    def test_refused_webs(self):
        for rows in (([], []), ([0], [0]), ([500], [0]), ([0], None), (None, None), ([0] * 25, [True])):
            self.check_refuses_webs(parting_row, *rows)

    def test_refused_rows(self):
        for other in ([], [0], [0] * 24):
            self.check_refuses_rows(parting_row, other)
            self.check_refuses_rows(lambda web, row, good=other: parting_row(web, good, row))

    def test_no_row_twice(self):
        for at, thing in enumerate(no_rows(len(FIVE))):
            for wrong in (thing, None, [5], [True]):
                with self.subTest(at, wrong=wrong):
                    with self.assertRaises(NoRow):
                        parting_row(FIVE, thing, wrong)
                    with self.assertRaises(NoRow):
                        parting_row(FIVE, wrong, thing)

    def test_told_and_handed_in(self):
        for web, one, other in (([[1], []], [0], []), ([[1], []], [], [0]), (FIVE, [1, 2], [2]),
                                (FIVE, [2], [1, 2]), (FIVE, [1] * 24, [2] * 23)):
            with self.subTest(web=web, one=one, other=other):
                self.check_own(parting_row, copy.deepcopy(web), one, other)
        for one, other in (([1], [4]), ([], []), ([2, 2], []), ([True], []), ([], [5])):
            with self.subTest(one=one, other=other):
                self.check_unchanged(parting_row, copy.deepcopy(FIVE), one, other)

    def test_rows_that_are_spots_of_the_web(self):
        for left, right in itertools.product(range(len(FIVE)), repeat=2):
            web = copy.deepcopy(FIVE)
            if parting_row(web, web[left], web[right]) is not None:
                with self.subTest(left=left, right=right):
                    self.check_parts(web, web[left], web[right])
                    self.check_own(parting_row, web, web[left], web[right])

    def test_the_same_list_as_both(self):
        row = [1, 2]
        self.assertIs(parting_row(FIVE, row, row), None)
        self.assertEqual(row, [1, 2])

    def test_nothing_is_kept(self):
        web = [[], [0], [1]]
        one, other = [2], []
        self.assertIs(parting_row(web, one, other), None)
        web[2].append(0)
        self.check_parts(web, one, other)
        other.append(2)
        self.assertIs(parting_row(web, one, other), None)
        one.append(1)
        self.check_parts(web, one, other)
