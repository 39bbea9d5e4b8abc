"""Tests of spotsums/webs.py."""

import copy
import itertools
import random

from spotsums.errors import NoWeb, TooMany
from spotsums.webs import heap_web, is_web, joined_webs, paired_web, ring_in
from tests.samples import NO_WEBS, AskedTest, all_play_ends, lists_in, spoil, told_lists

WEBS = (
    [[]],
    [[0]],
    [[], []],
    [[1], []],
    [[], [0]],
    [[1], [0]],
    [[0, 1], [1, 0]],
    [[2, 0, 1], [], [1]],
    [[] for _ in range(200)],
    [[199]] + [[] for _ in range(199)],
    [[(k + 1) % 200] for k in range(200)],
    [list(range(k)) for k in range(200)],
    [list(range(k - 1, -1, -1)) for k in range(200)],
    [list(range(200)) for _ in range(200)],
    [[]] * 3,
    [[2]] * 3,
)


class IsWebTest(AskedTest):
    def test_webs(self):
        for web in WEBS:
            with self.subTest(web):
                self.assertIs(is_web(web), True)

    def test_no_webs(self):
        for at, thing in enumerate(NO_WEBS):
            with self.subTest(at):
                self.assertIs(is_web(thing), False)

    def test_every_wrong_place_of_a_move_that_stands_twice(self):
        for first, second in itertools.combinations(range(6), 2):
            moves = [0, 1, 2, 3, 4, 5]
            moves[second] = moves[first]
            with self.subTest(moves):
                self.assertIs(is_web([[], [], moves, [], [], []]), False)

    def test_each_spot_is_looked_at(self):
        for wrong in ([10], [-1], [True], [4, 4], None, (4,)):
            for at in range(10):
                web = [[k] for k in range(10)]
                web[at] = wrong
                with self.subTest(wrong, at=at):
                    self.assertIs(is_web(web), False)

    def test_the_same_move_may_stand_in_several_spots(self):
        self.assertIs(is_web([[], [0], [0], [0, 1, 2, 3]]), True)

    def test_nothing_is_changed(self):
        for thing in WEBS + ([[True]], [[0, 0]], [[1]], [None], []):
            with self.subTest(thing):
                self.check_unchanged(is_web, thing)

    def test_nothing_is_kept(self):
        web = [[]]
        self.assertIs(is_web(web), True)
        web[0].append(1)
        self.assertIs(is_web(web), False)
        web.append([])
        self.assertIs(is_web(web), True)


class RingInTest(AskedTest):
    def check_ring(self, web):
        ring = ring_in(web)
        self.assertIs(type(ring), list)
        self.assertGreaterEqual(len(ring), 1)
        self.assertEqual(len(set(ring)), len(ring))
        for at, spot in enumerate(ring):
            self.assertIs(type(spot), int)
            self.assertIn(spot, range(len(web)))
            self.assertIn(ring[(at + 1) % len(ring)], web[spot])
        return ring

    def test_none_without_rings(self):
        for web in (
            [[]], [[], []], [[1], []], [[], [0]], [[1, 2], [3], [3], []], [[3, 2, 1], [2, 3], [3], []],
            [[], [0], [0], [1, 2, 0]], [[] for _ in range(200)], [list(range(k)) for k in range(200)],
            [list(range(k + 1, 200)) for k in range(200)], [[k + 1] for k in range(199)] + [[]],
            [[2, 4], [], [4, 1], [1], [1, 3]], [[]] * 3, [[2], [2], []], heap_web(199, [3, 1, 2]),
        ):
            with self.subTest(web):
                self.assertIs(ring_in(web), None)

    def test_the_only_ring(self):
        for web, spots in (
            ([[0]], [0]),
            ([[1], [1]], [1]),
            ([[1], [0]], [0, 1]),
            ([[1], [2], [0]], [0, 1, 2]),
            ([[2], [0], [1]], [0, 1, 2]),
            # from 0 into the ring, from 3 out of it
            ([[1], [2], [1, 3], []], [1, 2]),
            ([[3, 1], [3, 2], [3, 1], []], [1, 2]),
            ([[1, 4], [2], [3], [1, 4], []], [1, 2, 3]),
            # a ring that stands beside spots without one
            ([[1], [], [3], [2]], [2, 3]),
            ([[], [], [], [0, 3]], [3]),
            # spots that lead in by several ways, and a chain out of the ring
            ([[1, 2], [3], [3], [4], [5, 6], [3], [7], []], [3, 4, 5]),
        ):
            with self.subTest(web):
                self.assertEqual(sorted(self.check_ring(web)), spots)

    def test_a_ring_of_a_hundred_spots(self):
        web = [[(k + 1) % 100] for k in range(100)]
        self.assertEqual(sorted(self.check_ring(web)), list(range(100)))

    def test_a_ring_of_all_two_hundred_spots(self):
        web = [[(k + 7) % 200] for k in range(200)]
        self.assertEqual(sorted(self.check_ring(web)), list(range(200)))

    def test_a_great_ring_with_ways_in_and_out(self):
        web = [[k + 1] for k in range(150)] + [[50]] + [[] for _ in range(49)]
        for spot in range(151):
            web[spot].insert(0, 151 + spot % 49)
        self.assertEqual(sorted(self.check_ring(web)), list(range(50, 151)))

    def test_webs_with_several_rings(self):
        for web in (
            [[0], [1]], [[1, 0], [0, 1]], [[1], [0, 2], [3], [2]], [[1, 2], [0], [0]], [[1], [2], [0, 1]],
            [[2, 1], [2], [0, 1]], [list(range(200)) for _ in range(200)], [[2]] * 3, [[0, 1, 2]] * 3,
        ):
            with self.subTest(web):
                self.check_ring(web)

    def test_all_webs_of_three_spots(self):
        spots = [list(moves) for many in range(4) for moves in itertools.combinations(range(3), many)]
        for web in itertools.product(spots, repeat=3):
            web = list(web)
            with self.subTest(web):
                if all_play_ends(web):
                    self.assertIs(ring_in(web), None)
                else:
                    self.check_ring(web)

    def test_webs_by_chance(self):
        chance = random.Random(3)
        for _ in range(300):
            many = chance.randint(1, 20)
            web = [chance.sample(range(many), chance.randint(0, min(many, 2))) for _ in range(many)]
            with self.subTest(web):
                if all_play_ends(web):
                    self.assertIs(ring_in(web), None)
                else:
                    self.check_ring(web)

    def test_no_web(self):
        for at, thing in enumerate(NO_WEBS):
            with self.subTest(at):
                with self.assertRaises(NoWeb):
                    ring_in(thing)

    def test_told_and_handed_in(self):
        for web in ([[0]], [[1], [0]], [[1], [2], [1, 3], []], [[1, 2], [0, 2], []], [[2]] * 3):
            with self.subTest(web):
                self.check_own(ring_in, web)
        for web in ([[]], [[1, 2], [], []], [], [[1]], [[0, 0]]):
            with self.subTest(web):
                self.check_unchanged(ring_in, web)


class HeapWebTest(AskedTest):
    def test_moves_stand_in_the_order_of_the_takes(self):
        for most, takes, web in (
            (0, [], [[]]),
            (0, [1], [[]]),
            (0, [5, 1], [[]]),
            (1, [1], [[], [0]]),
            (3, [], [[], [], [], []]),
            (3, [1], [[], [0], [1], [2]]),
            (3, [1, 2, 3], [[], [0], [1, 0], [2, 1, 0]]),
            (3, [3, 2, 1], [[], [0], [0, 1], [0, 1, 2]]),
            (4, [2, 1, 3], [[], [0], [0, 1], [1, 2, 0], [2, 3, 1]]),
            (4, [4, 2], [[], [], [0], [1], [0, 2]]),
            (3, [9, 2, 200, 1], [[], [0], [0, 1], [1, 2]]),
            (2, [3, 4], [[], [], []]),
            (2, [10 ** 30, 2], [[], [], [0]]),
        ):
            with self.subTest(most=most, takes=takes):
                self.assertEqual(heap_web(most, takes), web)

    def test_the_greatest_web(self):
        web = heap_web(199, [1, 199, 3, 200])
        self.assertIs(is_web(web), True)
        self.assertEqual(len(web), 200)
        self.assertEqual(web[0], [])
        self.assertEqual(web[2], [1])
        self.assertEqual(web[198], [197, 195])
        self.assertEqual(web[199], [198, 0, 196])

    def test_all_takes_of_the_greatest_web(self):
        web = heap_web(199, list(range(199, 0, -1)))
        self.assertEqual(web, [list(range(beans)) for beans in range(200)])
        self.assertIs(is_web(web), True)

    def test_somewhat_beyond_the_most_is_no_error(self):
        self.assertEqual(heap_web(200, [1]), [[]] + [[k] for k in range(200)])

    def test_told_and_handed_in(self):
        for most, takes in ((0, []), (3, []), (5, [2, 1]), (9, [4, 20, 1])):
            with self.subTest(most=most, takes=takes):
                self.check_own(heap_web, most, takes)


class TwoWebsTest(AskedTest):
    """What joined and paired webs have in common."""

    asked = (joined_webs, paired_web)

    def test_no_web_as_the_first(self):
        for ask in self.asked:
            for at, thing in enumerate(NO_WEBS):
                for other in ([[]], [[1], [0]]):
                    with self.subTest(ask, at=at, other=other):
                        with self.assertRaises(NoWeb):
                            ask(thing, other)

    def test_no_web_as_the_second(self):
        for ask in self.asked:
            for at, thing in enumerate(NO_WEBS):
                for one in ([[]], [[1], [0]]):
                    with self.subTest(ask, at=at, one=one):
                        with self.assertRaises(NoWeb):
                            ask(one, thing)

    def test_no_web_as_both(self):
        for ask in self.asked:
            for at, thing in enumerate(NO_WEBS):
                with self.subTest(ask, at=at):
                    with self.assertRaises(NoWeb):
                        ask(thing, thing)
                    with self.assertRaises(NoWeb):
                        ask(thing, None)

    def test_no_web_rather_than_too_many(self):
        great = [[] for _ in range(200)]
        for ask in self.asked:
            for wrong in ([[] for _ in range(201)], [[0, 0]] + [[] for _ in range(99)],
                          [[] for _ in range(199)] + [[200]], [[True]] + great[1:]):
                with self.subTest(ask, wrong=wrong):
                    with self.assertRaises(NoWeb):
                        ask(great, wrong)
                    with self.assertRaises(NoWeb):
                        ask(wrong, great)

    def test_refused_webs_stay_as_they_are(self):
        for ask in self.asked:
            for one, other in (([[]] * 101, [[]] * 100), ([[1]], [[]]), ([[]], [[0, 0]])):
                with self.subTest(ask, one=one, other=other):
                    self.check_unchanged(ask, one, other)

    def test_told_and_handed_in(self):
        for ask in self.asked:
            for one, other in (
                ([[]], [[]]), ([[1], []], [[], [0], [1, 0]]), ([[0]], [[1], [0]]), ([[0]], [[0]]),
                ([[]] * 3, [[]] * 2), ([[2]] * 3, [[1]] * 2), ([[], []], [[2, 1], [], []]),
            ):
                with self.subTest(ask, one=one, other=other):
                    self.check_own(ask, one, other)

    def test_the_same_web_as_both(self):
        for ask in self.asked:
            for web in ([[]], [[0]], [[1, 2], [2], []], [[], [0]], [[]] * 3):
                with self.subTest(ask, web=web):
                    before = copy.deepcopy(web)
                    told = ask(web, web)
                    self.assertEqual(told, ask(web, copy.deepcopy(web)))
                    self.check_unlike(told_lists(told) + lists_in([web]))
                    spoil(told_lists(told))
                    self.assertEqual(web, before)


class JoinedWebsTest(AskedTest):
    def test_spots_and_moves(self):
        for one, other, web in (
            ([[]], [[]], [[], []]),
            ([[1], []], [[], [0], [1, 0]], [[1], [], [], [2], [3, 2]]),
            ([[], [0], [1, 0]], [[1], []], [[], [0], [1, 0], [4], []]),
            ([[2, 1], [], [1]], [[]], [[2, 1], [], [1], []]),
            ([[]], [[2, 1], [], [1]], [[], [3, 2], [], [2]]),
        ):
            with self.subTest(one=one, other=other):
                self.assertEqual(joined_webs(one, other), web)

    def test_rings_are_not_refused(self):
        self.assertEqual(joined_webs([[0]], [[]]), [[0], []])
        self.assertEqual(joined_webs([[]], [[0]]), [[], [1]])
        self.assertEqual(joined_webs([[1], [0]], [[1], [2], [0, 2]]), [[1], [0], [3], [4], [2, 4]])

    def test_just_two_hundred_spots(self):
        for many in (1, 99, 100, 199):
            one = [[0] for _ in range(many)]
            other = [[199 - many] for _ in range(200 - many)]
            with self.subTest(many):
                self.assertEqual(joined_webs(one, other), [[0]] * many + [[199]] * (200 - many))

    def test_too_many(self):
        for many, more in ((1, 200), (200, 1), (100, 101), (101, 100), (200, 200), (2, 199)):
            with self.subTest(many=many, more=more):
                with self.assertRaises(TooMany):
                    joined_webs([[] for _ in range(many)], [[] for _ in range(more)])


class PairedWebTest(AskedTest):
    def test_spots_and_moves(self):
        for one, other, web in (
            ([[]], [[]], [[]]),
            ([[1], []], [[1], []], [[2, 1], [3], [3], []]),
            ([[], [0]], [[], [0], [1, 0]],
             [[], [0], [1, 0], [0], [1, 3], [2, 4, 3]]),
            ([[], [0], [1, 0]], [[], [0]],
             [[], [0], [0], [1, 2], [2, 0], [3, 1, 4]]),
            ([[2, 1], [], [1]], [[]], [[2, 1], [], [1]]),
            ([[]], [[2, 1], [], [1]], [[2, 1], [], [1]]),
            ([[1, 2], [], []], [[2, 1], [], []],
             [[3, 6, 2, 1], [4, 7], [5, 8], [5, 4], [], [], [8, 7], [], []]),
        ):
            with self.subTest(one=one, other=other):
                self.assertEqual(paired_web(one, other), web)

    def test_rings_are_not_refused(self):
        self.assertEqual(paired_web([[1], [0]], [[]]), [[1], [0]])
        self.assertEqual(paired_web([[]], [[1], [0]]), [[1], [0]])
        self.assertEqual(paired_web([[1], [0]], [[1], [0]]), [[2, 1], [3, 0], [0, 3], [1, 2]])
        self.assertEqual(paired_web([[0]], [[], [0]]), [[0], [1, 0]])

    def test_no_move_stands_twice(self):
        self.assertEqual(paired_web([[0]], [[0]]), [[0]])
        self.assertEqual(paired_web([[1, 0], []], [[1, 0], []]), [[2, 0, 1], [3, 1], [3, 2], []])
        self.assertEqual(paired_web([[0, 1], [1]], [[0, 1], [0]]),
                         [[0, 2, 1], [1, 3, 0], [2, 3], [3, 2]])

    def test_what_is_told_is_a_web(self):
        chance = random.Random(12)
        for _ in range(100):
            one, other = [[chance.sample(range(many), chance.randint(0, many)) for _ in range(many)]
                          for many in (chance.randint(1, 9), chance.randint(1, 9))]
            with self.subTest(one=one, other=other):
                self.assertIs(is_web(paired_web(one, other)), True)
                self.assertIs(is_web(joined_webs(one, other)), True)

    def test_just_two_hundred_spots(self):
        for many, more in ((1, 200), (200, 1), (10, 20), (20, 10), (8, 25)):
            one = heap_web(many - 1, [1])
            other = heap_web(more - 1, [2, 1])
            with self.subTest(many=many, more=more):
                web = paired_web(one, other)
                self.assertEqual(len(web), 200)
                self.assertEqual(web[199], [k * more + more - 1 for k in one[-1]]
                                 + [(many - 1) * more + k for k in other[-1]])

    def test_too_many(self):
        for many, more in ((2, 101), (101, 2), (3, 67), (15, 14), (14, 15), (200, 2), (200, 200)):
            with self.subTest(many=many, more=more):
                with self.assertRaises(TooMany):
                    paired_web([[] for _ in range(many)], [[] for _ in range(more)])
