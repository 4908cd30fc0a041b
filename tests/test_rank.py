"""Promise 6, ri_rank."""

import unittest

from barframe.frames import ri_kept, ri_rank
from tests.helper import (
    ALL_ROUND, APART, CIRCLE, CORNERS, LEVEL, MEETING, NO_FRAMES, OUTSIDE, PRISM, SQUARE, THREE_BY_THREE, TRIANGLE,
    Untouched, all_pairs, flat, full_frame, rank_by_words, shuffled, small_frames, some_places, turned,
)


def rank(n, pairs, places):
    return ri_rank(n, flat(pairs), flat(places))


class Frames(unittest.TestCase):
    def check(self, n, pairs, places, many):
        self.assertEqual(len(places), n)
        self.assertEqual(rank(n, pairs, places), [many])
        self.assertEqual(rank(n, turned(pairs), places), [many])
        for seed in range(4):
            mixed = shuffled(pairs, seed)
            self.assertEqual(rank(n, [pair[::-1] if i % 2 else pair for i, pair in enumerate(mixed)], places), [many])


class OrdinaryFrames(Frames):
    def test_no_bars(self):
        for n in (2, 3, 8, 12):
            self.check(n, [], some_places(n, 1000, n), 0)
            self.check(n, [], [(0, 0)] * n, 0)

    def test_one_bar(self):
        self.check(2, [(0, 1)], [(0, 0), (1, 0)], 1)
        self.check(2, [(0, 1)], [(3, 4), (3, 5)], 1)
        self.check(2, [(0, 1)], [(-7, 2), (5, -9)], 1)
        self.check(12, [(11, 4)], some_places(12, 50, 1), 1)

    def test_triangle(self):
        self.check(3, TRIANGLE, [(0, 0), (1, 0), (0, 1)], 3)
        self.check(3, TRIANGLE, [(5, -3), (-8, 100), (77, 2)], 3)

    def test_triangle_in_a_line(self):
        self.check(3, TRIANGLE, [(0, 0), (1, 0), (5, 0)], 2)
        self.check(3, TRIANGLE, [(2, -1), (2, 7), (2, 4)], 2)
        self.check(3, TRIANGLE, [(-3, -5), (1, 1), (5, 7)], 2)
        self.check(3, TRIANGLE, [(-3, -5), (1, 1), (5, 8)], 3)

    def test_square(self):
        self.check(4, SQUARE, CORNERS, 4)
        self.check(4, SQUARE + [(0, 2)], CORNERS, 5)
        self.check(4, SQUARE + [(1, 3)], CORNERS, 5)
        self.check(4, SQUARE + [(0, 2), (1, 3)], CORNERS, 5)

    def test_all_bars(self):
        self.check(4, all_pairs(range(4)), [(0, 0), (4, 1), (3, 7), (-2, 5)], 5)
        self.check(5, all_pairs(range(5)), [(0, 0), (4, 1), (3, 7), (-2, 5), (1, 2)], 7)
        self.check(12, all_pairs(range(12)), some_places(12, 1000, 4), 21)
        self.check(12, all_pairs(range(12)), [(v, v * v) for v in range(12)], 21)

    def test_all_bars_in_a_line(self):
        for n in (4, 5, 12):
            self.check(n, all_pairs(range(n)), [(3 * v - 7, 5 * v + 1) for v in range(n)], n - 1)
            self.check(n, all_pairs(range(n)), [(0, 0)] + [(v, 1) for v in range(1, n)], 2 * n - 3)

    def test_several_pieces(self):
        two = all_pairs((0, 2, 4)) + all_pairs((1, 3, 5))
        self.check(6, two, [(0, 0), (1, 1), (5, 0), (6, 1), (0, 5), (1, 9)], 6)
        self.check(6, two, [(0, 0), (1, 1), (5, 0), (2, 2), (0, 5), (3, 3)], 5)
        three = all_pairs((0, 1, 2, 3)) + all_pairs((5, 7, 9)) + [(8, 10)]
        self.check(12, three, some_places(12, 300, 2), 5 + 3 + 1)

    def test_chain(self):
        chain = [(v, v + 1) for v in range(11)]
        self.check(12, chain, [(v, 0) for v in range(12)], 11)
        self.check(12, chain, some_places(12, 1000, 9), 11)

    def test_x_and_y_are_each_joint_s_own(self):
        self.assertEqual(ri_rank(3, [0, 1, 0, 2, 1, 2], [0, 1, 0, 2, 0, 3]), [2])
        self.assertEqual(ri_rank(3, [0, 1, 0, 2, 1, 2], [0, 0, 1, 1, 0, 1]), [3])


class StandingBadly(Frames):
    def kept(self, n, pairs):
        return ri_kept(n, flat(pairs))[0]

    def test_prism(self):
        self.assertEqual(self.kept(6, PRISM), 9)
        self.check(6, PRISM, APART, 9)
        self.check(6, PRISM, LEVEL, 8)
        self.check(6, PRISM, MEETING, 8)

    def test_three_by_three_on_a_circle(self):
        self.assertEqual(self.kept(6, THREE_BY_THREE), 9)
        self.check(6, THREE_BY_THREE, CIRCLE, 8)
        self.check(6, THREE_BY_THREE, CIRCLE[:5] + [(0, 6)], 9)
        self.check(6, THREE_BY_THREE, [(1000 * x // 5, 1000 * y // 5) for x, y in CIRCLE], 8)

    def test_two_triangles_in_a_line(self):
        bars = SQUARE + [(0, 2)]
        self.assertEqual(self.kept(4, bars), 5)
        self.check(4, bars, [(0, 0), (1, 0), (2, 0), (1, 5)], 4)
        self.check(4, bars, [(0, 0), (1, 0), (2, 0), (3, 0)], 3)

    def test_near_and_yet_apart(self):
        self.check(3, TRIANGLE, [(-1000, -1000), (0, 0), (1000, 999)], 3)
        self.check(3, TRIANGLE, [(-1000, -1000), (0, 0), (1000, 1000)], 2)
        self.check(3, TRIANGLE, [(-999, -1000), (0, 0), (999, 1000)], 2)
        self.check(3, TRIANGLE, [(-999, -1000), (0, 0), (998, 999)], 3)


class AtOnePlace(Frames):
    def test_two_joints(self):
        for place in ((0, 0), (7, -3), (1000, 1000), (-1000, 1000)):
            self.check(2, [(0, 1)], [place, place], 0)
            self.check(2, [], [place, place], 0)

    def test_two_of_three(self):
        self.check(3, TRIANGLE, [(4, 4), (4, 4), (9, 1)], 2)
        self.check(3, [(0, 2), (1, 2)], [(4, 4), (4, 4), (9, 1)], 2)
        self.check(3, [(0, 1)], [(4, 4), (4, 4), (9, 1)], 0)
        self.check(3, [(0, 1), (1, 2)], [(4, 4), (4, 4), (9, 1)], 1)

    def test_two_of_four(self):
        places = [(0, 0), (5, 1), (0, 0), (2, 8)]
        self.check(4, SQUARE, places, 4)
        self.check(4, SQUARE + [(0, 2)], places, 4)
        self.check(4, SQUARE + [(1, 3)], places, 5)
        self.check(4, all_pairs(range(4)), places, 5)

    def test_one_number_in_common_alone(self):
        self.check(2, [(0, 1)], [(4, 4), (4, 5)], 1)
        self.check(2, [(0, 1)], [(4, 4), (5, 4)], 1)

    def test_all(self):
        for n in (3, 4, 8, 12):
            self.check(n, all_pairs(range(n)), [(17, -400)] * n, 0)


class ByTheWords(unittest.TestCase):
    def check(self, n, pairs, places):
        with self.subTest(n=n, pairs=pairs, places=places):
            self.assertEqual(rank(n, pairs, places), rank_by_words(n, pairs, places))

    def test_small_frames(self):
        for k, (n, pairs) in enumerate(small_frames()):
            for reach in (1, 2, 1000):
                self.check(n, pairs, some_places(n, reach, k))
            self.check(n, pairs, [(v * (k % 3), v * (k % 7)) for v in range(n)])

    def test_frames_up_to_12(self):
        for n in (9, 10, 11, 12):
            pairs = all_pairs(range(n))
            for seed in range(12):
                some = shuffled(pairs, n + seed)[: (seed + 1) * len(pairs) // 12]
                self.check(n, some, some_places(n, (1, 3, 40, 1000)[seed % 4], seed))

    def test_full_frames_up_to_12(self):
        for n in range(6, 13):
            for seed in range(10):
                for reach in (1, 2, 5):
                    self.check(n, full_frame(n, seed), some_places(n, reach, seed))

    def test_well_apart_as_many_as_are_kept(self):
        for n, pairs in small_frames():
            self.assertEqual(rank(n, pairs, some_places(n, 1000, 11)), ri_kept(n, flat(pairs))[:1], pairs)


class Places(unittest.TestCase):
    def test_the_edges(self):
        for x in (-1000, 1000):
            for y in (-1000, 1000):
                self.assertEqual(rank(2, [(0, 1)], [(x, y), (0, 0)]), [1])
                self.assertEqual(rank(2, [(0, 1)], [(0, 0), (x, y)]), [1])
                self.assertEqual(rank(2, [(0, 1)], [(x, y), (-x, -y)]), [1])
        self.assertEqual(rank(3, TRIANGLE, [(-1000, -1000), (1000, -1000), (1000, 1000)]), [3])

    def test_every_distance(self):
        for apart in range(1, 2001):
            far = apart - 1000
            self.assertEqual(rank(2, [(0, 1)], [(-1000, 5), (far, 5)]), [1])
            self.assertEqual(rank(2, [(0, 1)], [(5, -1000), (5, far)]), [1])
            self.assertEqual(rank(3, TRIANGLE, [(-1000, 0), (far, 0), (-1000, 1)]), [3])
            self.assertEqual(rank(3, TRIANGLE, [(0, -1000), (0, far), (1, -1000)]), [3])

    def test_all_over_a_frame_of_12(self):
        pairs = all_pairs(range(12))
        edges = ALL_ROUND[:4]
        self.assertEqual(rank(12, pairs, ALL_ROUND), [21])
        self.assertEqual(rank_by_words(12, pairs, ALL_ROUND), [21])
        for places in (edges * 3, edges[:2] * 6, [edges[0], edges[2]] * 6, [edges[k // 3] for k in range(12)]):
            self.assertEqual(rank(12, pairs, places), rank_by_words(12, pairs, places))

    def test_outside(self):
        for n, pairs in ((2, [(0, 1)]), (2, []), (12, all_pairs(range(12))), (13, []), (13, SQUARE), (32, SQUARE)):
            for k in range(2 * n):
                for out in OUTSIDE:
                    xy = [1000] * (2 * n)
                    xy[k] = out
                    self.assertEqual(ri_rank(n, flat(pairs), xy), [-2])
        for out in OUTSIDE:
            self.assertEqual(ri_rank(3, [0, 1], [out] * 6), [-2])

    def test_outside_where_no_bar_is(self):
        self.assertEqual(ri_rank(3, [0, 1], [0, 0, 1, 0, 0, 1001]), [-2])


class Refusals(unittest.TestCase):
    def test_no_frame(self):
        for n, bars in NO_FRAMES:
            with self.subTest(n=n, bars=bars):
                many = n if 2 <= n <= 32 else 0
                self.assertEqual(ri_rank(n, bars, [0, 0] * many), [-2])
                self.assertEqual(ri_rank(n, bars, flat(some_places(many, 1000, 1))), [-2])
                self.assertEqual(ri_rank(n, bars, [0, 5000] * many), [-2])

    def test_no_frame_with_more_than_12_joints(self):
        for n in (13, 20, 32):
            for bars in ([0, n], [n, 1], [4, 4], [0, 1, 0, 1], [0, 1, 1, 0], [255, 0]):
                self.assertEqual(ri_rank(n, bars, [0, 0] * n), [-2])

    def test_too_many_joints(self):
        for n in range(13, 33):
            places = some_places(n, 1000, n)
            self.assertEqual(rank(n, [], places), [-3])
            self.assertEqual(rank(n, SQUARE, places), [-3])
            self.assertEqual(rank(n, all_pairs(range(n))[:96], places), [-3])
            self.assertEqual(rank(n, [(n - 1, 0)], [(0, 0)] * n), [-3])

    def test_edges_of_n(self):
        self.assertEqual(ri_rank(2, [1, 0], [0, 0, 1, 1]), [1])
        self.assertEqual(rank(12, [(10, 11)], some_places(12, 9, 2)), [1])
        self.assertEqual(rank(13, [(10, 11)], some_places(13, 9, 2)), [-3])
        self.assertEqual(rank(32, [(30, 31)], some_places(32, 9, 2)), [-3])
        for n in (1, 0, -1, -2, -2147483648, 33, 34, 2147483647):
            for bars in ([], [0, 1], flat(SQUARE)):
                self.assertEqual(ri_rank(n, bars, []), [-2])


class Calls(unittest.TestCase):
    def test_nothing_is_changed_or_kept(self):
        for n, pairs, places in (
            (4, all_pairs(range(4)), CORNERS), (12, all_pairs(range(12)), some_places(12, 1000, 4)),
            (13, SQUARE, some_places(13, 5, 4)), (3, TRIANGLE, [(0, 0), (0, 1001), (0, 0)]),
        ):
            bars = Untouched(flat(pairs))
            xy = Untouched(flat(places))
            first = ri_rank(n, bars, xy)
            self.assertEqual(ri_rank(3, [0, 1, 0, 1], [0] * 6), [-2])
            self.assertEqual(ri_rank(3, [2, 1], [0, 0, 1, 1, 2, 2]), [1])
            self.assertEqual(ri_rank(n, bars, xy), first)
            self.assertEqual(list(bars), flat(pairs))
            self.assertEqual(list(xy), flat(places))

    def test_an_answer_is_its_caller_s_own(self):
        for n, xy in ((2, [0, 0, 1, 1]), (2, [0, 0, 0, 0]), (13, [0] * 26), (1, [])):
            first = ri_rank(n, [0, 1], xy)
            ri_rank(n, [0, 1], xy).append(9)
            self.assertEqual(ri_rank(n, [0, 1], xy), first)

    def test_kinds(self):
        for answer in (
            rank(4, SQUARE, CORNERS), ri_rank(2, [], [0] * 4), ri_rank(2, [0, 1], [0, 0, 1, 1]),
            ri_rank(13, [], [0] * 26), ri_rank(1, [], []),
        ):
            self.assertIs(type(answer), list)
            self.assertEqual(len(answer), 1)
            self.assertIs(type(answer[0]), int)


if __name__ == "__main__":
    unittest.main()
