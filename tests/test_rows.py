"""Tests of spotsums/rows.py."""

import copy
import random

from spotsums.errors import NoMove, NoRow
from spotsums.numbers import numbers_of
from spotsums.rows import moves_in, played, row_number
from spotsums.webs import heap_web, joined_webs, paired_web
from tests.samples import (FIVE, AskedTest, no_moves, no_rows, powers_laid_over, ringless_web, ringless_webs,
                           rows_up_to)

# Its last spot has moves to all others.
GREAT = [[] for _ in range(199)] + [[(k * 7) % 199 for k in range(199)]]


def rows_by_chance():
    """Webs with a row of up to 24 spots each."""
    chance = random.Random(24)
    return [(web, [chance.randrange(len(web)) for _ in range(many)])
            for many in range(25)
            for web in [ringless_web(chance, chance.choice((1, 2, 5, 20, 200)))]]


class MovesInTest(AskedTest):
    def test_known_rows(self):
        for web, row, moves in (
            ([[]], [], []),
            ([[]], [0], []),
            ([[]], [0] * 24, []),
            ([[1], []], [], []),
            ([[1], []], [0], [(0, 1)]),
            ([[1], []], [1], []),
            ([[1], []], [1, 0], [(1, 1)]),
            ([[1], []], [0, 1], [(0, 1)]),
            # a spot that stands in the row twice
            ([[1], []], [0, 0], [(0, 1), (1, 1)]),
            (FIVE, [2, 2], [(0, 0), (0, 1), (1, 0), (1, 1)]),
            (FIVE, [2, 0, 2], [(0, 0), (0, 1), (2, 0), (2, 1)]),
            # the web tells the moves in another order
            (FIVE, [4, 3, 2, 1, 0], [(0, 2), (0, 3), (1, 2), (2, 0), (2, 1), (3, 0)]),
            (FIVE, [0, 1, 2, 3, 4], [(1, 0), (2, 0), (2, 1), (3, 2), (4, 2), (4, 3)]),
            ([[3, 1, 2], [], [1], [2, 1]], [0, 3], [(0, 1), (0, 2), (0, 3), (1, 1), (1, 2)]),
            ([[10, 9, 2, 1]] + [[]] * 10, [0, 0], [(0, 1), (0, 2), (0, 9), (0, 10), (1, 1), (1, 2), (1, 9), (1, 10)]),
            ([[1], []], [0] * 24, [(place, 1) for place in range(24)]),
            (heap_web(3, [1, 2, 3]), [3, 1, 3], [(0, 0), (0, 1), (0, 2), (1, 0), (2, 0), (2, 1), (2, 2)]),
            (GREAT, [199, 5, 199], [(0, spot) for spot in range(199)] + [(2, spot) for spot in range(199)]),
            (GREAT, [199] * 24, [(place, spot) for place in range(24) for spot in range(199)]),
            (joined_webs([[1], []], FIVE), [4, 0], [(0, 2), (0, 3), (1, 1)]),
            (paired_web([[1], []], [[1], []]), [0], [(0, 1), (0, 2)]),
        ):
            with self.subTest(web=web, row=row):
                self.check_moves(moves_in(web, row), moves)

    def test_rows_by_chance(self):
        for web, row in rows_by_chance():
            with self.subTest(web=web, row=row):
                moves = [(place, spot) for place in range(len(row)) for spot in range(len(web))
                         if spot in web[row[place]]]
                self.check_moves(moves_in(web, row), moves)

    def test_refusals(self):
        for row in ([], [0], [500], [True], None, [0] * 25):
            self.check_refuses_webs(moves_in, row)
        self.check_refuses_rows(moves_in)

    def test_told_and_handed_in(self):
        for web, row in (([[]], []), ([[1], []], [0, 0]), (FIVE, [4, 2]), ([[]] * 3, [2, 1]), (FIVE, [])):
            with self.subTest(web=web, row=row):
                self.check_own(moves_in, copy.deepcopy(web), copy.copy(row))

    def test_a_row_that_is_a_spot_of_the_web(self):
        web = copy.deepcopy(FIVE)
        self.assertEqual(moves_in(web, web[4]), [(0, 2), (1, 0), (1, 1)])
        self.check_own(moves_in, web, web[4])

    def test_nothing_is_kept(self):
        web = [[], [0], [1]]
        row = [2]
        self.assertEqual(moves_in(web, row), [(0, 1)])
        row.append(1)
        self.assertEqual(moves_in(web, row), [(0, 1), (1, 0)])
        web[2].append(0)
        self.assertEqual(moves_in(web, row), [(0, 0), (0, 1), (1, 0)])


class PlayedTest(AskedTest):
    def check_played(self, web, row, move, wanted):
        told = played(web, row, move)
        self.assertEqual(told, wanted)
        self.assertIs(type(told), list)
        for spot in told:
            self.assertIs(type(spot), int)

    def test_known_rows(self):
        for web, row, move, behind in (
            ([[1], []], [0], (0, 1), [1]),
            ([[1], []], [0, 0], (0, 1), [1, 0]),
            ([[1], []], [0, 0], (1, 1), [0, 1]),
            (FIVE, [4, 3, 4], (0, 3), [3, 3, 4]),
            (FIVE, [4, 3, 4], (0, 2), [2, 3, 4]),
            (FIVE, [4, 3, 4], (1, 2), [4, 2, 4]),
            (FIVE, [4, 3, 4], (2, 2), [4, 3, 2]),
            (FIVE, [0, 1], (1, 0), [0, 0]),
            ([[1], []], [0] * 24, (0, 1), [1] + [0] * 23),
            ([[1], []], [0] * 24, (23, 1), [0] * 23 + [1]),
            (GREAT, [7, 199, 8], (1, 198), [7, 198, 8]),
            (GREAT, [7, 199, 8], (1, 0), [7, 0, 8]),
        ):
            with self.subTest(web=web, row=row, move=move):
                self.check_played(web, row, move, behind)

    def test_moves_of_rows_by_chance(self):
        for web, row in rows_by_chance()[:12]:
            for place, spot in moves_in(web, row)[::9][:40]:
                with self.subTest(web=web, row=row, place=place, spot=spot):
                    self.check_played(web, row, (place, spot), row[:place] + [spot] + row[place + 1:])

    def test_just_the_moves_in_the_row_are_played(self):
        for web in ringless_webs()[::7]:
            for row in rows_up_to(web, 2):
                moves = moves_in(web, row)
                for place in range(-3, 5):
                    for spot in range(-len(web) - 1, len(web) + 2):
                        with self.subTest(web=web, row=row, place=place, spot=spot):
                            if (place, spot) in moves:
                                self.check_played(web, row, (place, spot), row[:place] + [spot] + row[place + 1:])
                            else:
                                with self.assertRaises(NoMove):
                                    played(web, row, (place, spot))

    def test_what_is_no_move(self):
        for row in ([1], [1, 1], [2, 1, 0], [1] * 24, [1, 4]):
            for at, move in enumerate(no_moves(FIVE, row)):
                with self.subTest(row=row, at=at):
                    with self.assertRaises(NoMove):
                        played(FIVE, row, move)

    def test_true_and_false_are_no_places_and_no_spots(self):
        web = [[], [0], [1, 0]]
        for move in ((False, 1), (False, 0), (0, True), (0, False), (True, 1), (1, True), (True, True)):
            with self.subTest(move):
                with self.assertRaises(NoMove):
                    played(web, [2, 2], move)

    def test_places_from_behind_are_none(self):
        for place in (-1, -2, -3):
            with self.subTest(place):
                with self.assertRaises(NoMove):
                    played([[1], []], [0, 0], (place, 1))

    def test_a_spot_to_which_no_move_leads_from_there(self):
        for row, move in (([4], (0, 0)), ([4], (0, 1)), ([4], (0, 4)), ([0], (0, 0)), ([3, 1], (0, 0)),
                          ([3, 1], (1, 2)), ([2, 4], (0, 3)), ([2, 4], (1, 0))):
            with self.subTest(row=row, move=move):
                with self.assertRaises(NoMove):
                    played(FIVE, row, move)

    def test_no_move_is_in_an_empty_row(self):
        for move in ((0, 0), (0, 1), (-1, 0), (), None, (0,), [0, 0]):
            for web in ([[]], [[1], []], FIVE):
                with self.subTest(move=move, web=web):
                    with self.assertRaises(NoMove):
                        played(web, [], move)

    def test_refusals(self):
        for rest in (([0], (0, 1)), ([500], (0, 1)), ([0], None), (None, None), ([0] * 25, (9, 9, 9))):
            self.check_refuses_webs(played, *rest)
        for move in ((0, 0), (0, 1), (7, 7), None, [0, 0], "no"):
            self.check_refuses_rows(played, move)

    def test_refused_rows_stay_as_they_are(self):
        for row, move in (([1, 4], (0, 3)), ([1, 4], None), ([1, 4], [0, 0]), ([1, 4], (-1, 2)), ([True], (0, 0))):
            with self.subTest(row=row, move=move):
                self.check_unchanged(played, copy.deepcopy(FIVE), row, move)

    def test_told_and_handed_in(self):
        for web, row, move in (([[1], []], [0], (0, 1)), (FIVE, [4, 2], (1, 0)), (FIVE, [4] * 24, (7, 3))):
            with self.subTest(web=web, row=row, move=move):
                self.check_own(played, copy.deepcopy(web), row, move)

    def test_a_row_that_is_a_spot_of_the_web(self):
        web = copy.deepcopy(FIVE)
        self.assertEqual(played(web, web[4], (1, 1)), [3, 1])
        self.assertEqual(web, FIVE)
        self.check_own(played, web, web[4], (1, 1))

    def test_nothing_is_kept(self):
        web = [[], [0], [1]]
        row = [2, 2]
        self.assertEqual(played(web, row, (1, 1)), [2, 1])
        row[0] = 0
        self.assertEqual(played(web, row, (1, 1)), [0, 1])
        web[2][0] = 0
        self.assertEqual(played(web, row, (1, 0)), [0, 0])
        with self.assertRaises(NoMove):
            played(web, row, (1, 1))


class RowNumberTest(AskedTest):
    def check_number(self, web, row, wanted):
        told = row_number(web, row)
        self.assertEqual(told, wanted)
        self.assertIs(type(told), int)

    def test_known_rows(self):
        heaps = heap_web(100, list(range(1, 101)))
        for web, row, number in (
            ([[]], [], 0),
            (FIVE, [], 0),
            (heaps, [], 0),
            ([[]], [0], 0),
            ([[]], [0] * 24, 0),
            (FIVE, [0], 0), (FIVE, [1], 1), (FIVE, [2], 2), (FIVE, [3], 0), (FIVE, [4], 1),
            (FIVE, [2, 2], 0), (FIVE, [1, 4], 0), (FIVE, [1, 2], 3), (FIVE, [2, 4, 2], 1), (FIVE, [3, 0], 0),
            (FIVE, [2] * 23, 2), (FIVE, [2] * 24, 0), (FIVE, [1] * 23 + [2], 3),
            (heaps, [3, 5], 6), (heaps, [5, 3], 6), (heaps, [1, 2, 3], 0), (heaps, [100, 99], 7),
            (heaps, [100], 100), (heaps, [64, 32, 16, 8, 4, 2, 1], 127), (heaps, [7, 7, 7], 7),
            (heap_web(199, [1, 2, 3]), [199, 2, 5], 3 ^ 2 ^ 1),
        ):
            with self.subTest(web=web, row=row):
                self.check_number(web, row, number)

    def test_rows_by_chance(self):
        for web, row in rows_by_chance():
            with self.subTest(web=web, row=row):
                numbers = numbers_of(web)
                self.check_number(web, row, powers_laid_over([numbers[spot] for spot in row]))

    def test_refusals(self):
        for row in ([], [0], [500], [True], None, [0] * 25):
            self.check_refuses_webs(row_number, row)
        self.check_refuses_rows(row_number)

    def test_handed_in(self):
        for web, row in (([[]], []), (FIVE, [4, 2]), (FIVE, [2, 1, 0, 2])):
            self.check_unchanged(row_number, copy.deepcopy(web), row)

    def test_nothing_is_kept(self):
        web = [[], [0], [1]]
        row = [2, 1]
        self.check_number(web, row, 1)
        row.append(1)
        self.check_number(web, row, 0)
        web[2].append(0)
        self.check_number(web, row, 2)


class RowsTest(AskedTest):
    def test_every_wrong_place_in_a_row(self):
        for ask in (moves_in, row_number, lambda web, row: played(web, row, (0, 0))):
            for wrong in (True, False, None, -1, 5, "0", 0.0, [0]):
                for at in range(24):
                    row = [1] * 24
                    row[at] = wrong
                    with self.subTest(ask, wrong=wrong, at=at):
                        with self.assertRaises(NoRow):
                            ask(FIVE, row)

    def test_as_many_spots_as_a_row_may_have(self):
        for many in range(25):
            row = [4] * many
            with self.subTest(many):
                self.assertEqual(len(moves_in(FIVE, row)), 2 * many)
                self.assertEqual(row_number(FIVE, row), many % 2)
        for many in (25, 26, 48, 200, 1000):
            for ask in (moves_in, row_number, lambda web, row: played(web, row, (0, 2))):
                with self.subTest(many, ask=ask):
                    with self.assertRaises(NoRow):
                        ask(FIVE, [4] * many)

    def test_the_least_and_the_greatest_spot_of_a_web(self):
        for many in (1, 2, 3, 24, 25, 199, 200):
            web = [[] for _ in range(many)]
            for ask in (moves_in, row_number):
                with self.subTest(many, ask=ask):
                    ask(web, [0])
                    ask(web, [many - 1])
                    ask(web, [many - 1, 0])
                    with self.assertRaises(NoRow):
                        ask(web, [many])
                    with self.assertRaises(NoRow):
                        ask(web, [-1])

    def test_no_row_rather_than_no_move(self):
        for at, row in enumerate(no_rows(len(FIVE))):
            with self.subTest(at):
                with self.assertRaises(NoRow):
                    played(FIVE, row, (0, 9))
