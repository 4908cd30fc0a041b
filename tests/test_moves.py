"""Promise 7, ri_moves."""

import unittest

from barframe.frames import ri_kept, ri_moves, ri_parts, ri_rank
from tests.helper import (
    ALL_ROUND, APART, CIRCLE, CORNERS, LEVEL, MEETING, NO_FRAMES, OUTSIDE, PRISM, SQUARE, THREE_BY_THREE, TRIANGLE,
    Untouched, all_pairs, flat, full_frame, moves_by_words, rank_by_words, shuffled, small_frames, some_places, told,
    turned, ways_to_move,
)

LEAST = -2147483648
GREATEST = 2147483647


def moves(n, u, v, pairs, places):
    return ri_moves(n, u, v, flat(pairs), flat(places))


class Frames(unittest.TestCase):
    def check(self, n, ends, pairs, places, answer):
        self.assertEqual(len(places), n)
        for u, v in (ends, ends[::-1]):
            self.assertEqual(moves(n, u, v, pairs, places), [answer], (u, v, pairs, places))
            self.assertEqual(moves(n, u, v, turned(pairs), places), [answer])
            for seed in range(3):
                mixed = shuffled(pairs, seed)
                mixed = [pair[::-1] if i % 2 else pair for i, pair in enumerate(mixed)]
                self.assertEqual(moves(n, u, v, mixed, places), [answer])

    def check_all(self, n, pairs, places, moving):
        """Just the pairs of joints in moving can move against one another."""
        for ends in all_pairs(range(n)):
            self.check(n, ends, pairs, places, int(ends in moving))


class OrdinaryFrames(Frames):
    def test_no_bars(self):
        self.check(2, (0, 1), [], [(0, 0), (1, 0)], 1)
        self.check(2, (0, 1), [], [(0, 0), (0, 1)], 1)
        self.check(2, (0, 1), [], [(-1, 3), (5, -8)], 1)
        for n in (3, 8, 12):
            self.check_all(n, [], [(v, 7 - v * v) for v in range(n)], all_pairs(range(n)))

    def test_a_bar_that_is_there(self):
        self.check(2, (0, 1), [(0, 1)], [(0, 0), (1, 0)], 0)
        self.check(2, (0, 1), [(0, 1)], [(-1, 3), (5, -8)], 0)
        self.check(12, (4, 11), [(4, 11)], some_places(12, 50, 1), 0)

    def test_a_bar_elsewhere(self):
        places = [(0, 0), (4, 1), (3, 7), (-2, 5)]
        self.check_all(4, [(0, 1)], places, [pair for pair in all_pairs(range(4)) if pair != (0, 1)])
        self.check_all(4, [(1, 2)], places, [pair for pair in all_pairs(range(4)) if pair != (1, 2)])

    def test_triangle(self):
        places = [(0, 0), (4, 0), (1, 3)]
        self.check_all(3, TRIANGLE, places, [])
        for gone in TRIANGLE:
            self.check_all(3, [pair for pair in TRIANGLE if pair != gone], places, [gone])

    def test_square(self):
        self.check_all(4, SQUARE, CORNERS, [(0, 2), (1, 3)])
        self.check_all(4, SQUARE + [(0, 2)], CORNERS, [])
        self.check_all(4, SQUARE + [(1, 3)], CORNERS, [])
        self.check_all(4, SQUARE + [(0, 2), (1, 3)], CORNERS, [])

    def test_two_triangles_with_one_joint_in_common(self):
        bars = all_pairs((0, 1, 2)) + all_pairs((2, 3, 4))
        self.check_all(5, bars, [(-4, 1), (-3, 5), (0, 0), (6, 2), (7, -3)], [(0, 3), (0, 4), (1, 3), (1, 4)])

    def test_two_triangles_turning_where_two_joints_are_in_line_with_the_common_one(self):
        bars = all_pairs((0, 1, 2)) + all_pairs((2, 3, 4))
        self.check_all(5, bars, [(-4, -2), (-3, 5), (0, 0), (6, 3), (7, -3)], [(0, 4), (1, 3), (1, 4)])
        self.check_all(5, bars, [(-4, -2), (-3, 5), (0, 0), (2, 1), (3, -5)], [(0, 4), (1, 3)])

    def test_two_triangles_with_one_bar_in_common(self):
        bars = [(0, 1), (1, 2), (0, 2), (1, 3), (2, 3)]
        self.check_all(4, bars, [(0, 0), (5, 1), (4, -6), (11, -3)], [])
        self.check_all(4, bars[:2] + bars[3:], [(0, 0), (5, 1), (4, -6), (11, -3)], [(0, 2), (0, 3)])
        self.check_all(4, bars[:1] + bars[2:], [(0, 0), (5, 1), (4, -6), (11, -3)], [(0, 3), (1, 2)])

    def test_several_pieces(self):
        bars = all_pairs((0, 2, 4)) + all_pairs((1, 3, 5)) + [(6, 7)]
        places = [(0, 0), (1, 1), (5, 0), (6, 1), (0, 5), (1, 9), (-3, 8), (2, -2)]
        pieces = (0, 1, 0, 1, 0, 1, 2, 2)
        self.check_all(8, bars, places, [(u, v) for u, v in all_pairs(range(8)) if pieces[u] != pieces[v]])

    def test_pieces_that_lie_upon_one_another(self):
        bars = all_pairs((0, 1, 2)) + all_pairs((3, 4, 5))
        places = [(0, 0), (4, 0), (1, 3)] * 2
        apart = [(u, v) for u in (0, 1, 2) for v in (3, 4, 5) if places[u] != places[v]]
        self.assertEqual(len(apart), 6)
        self.check_all(6, bars, places, apart)

    def test_one_piece_that_bends(self):
        chain = [(v, v + 1) for v in range(11)]
        places = [(v, v * v) for v in range(12)]
        self.check_all(12, chain, places, [pair for pair in all_pairs(range(12)) if pair not in chain])

    def test_all_bars(self):
        self.check_all(4, all_pairs(range(4)), [(0, 0), (4, 1), (3, 7), (-2, 5)], [])
        self.check_all(5, all_pairs(range(5)), [(0, 0), (4, 1), (3, 7), (-2, 5), (1, 2)], [])
        pairs = flat(all_pairs(range(12)))
        for places in (some_places(12, 1000, 4), [(v, v * v) for v in range(12)]):
            for u, v in all_pairs(range(12)):
                self.assertEqual(ri_moves(12, u, v, pairs, flat(places)), [0])
                self.assertEqual(ri_moves(12, v, u, pairs, flat(places)), [0])

    def test_all_bars_but_those_of_one_joint(self):
        places = [(v, v * v) for v in range(12)]
        rest = all_pairs(range(11))
        for v in range(11):
            self.check(12, (v, 11), rest, places, 1)
        for v in range(1, 11):
            self.check(12, (v, 11), rest + [(0, 11)], places, 1)
            self.check(12, (0, 11), rest + [(v, 11)], places, 1)
        self.check(12, (5, 11), rest + [(0, 11), (10, 11)], places, 0)

    def test_x_and_y_are_each_joint_s_own(self):
        self.assertEqual(ri_moves(3, 0, 2, [0, 1, 1, 2], [0, 1, 0, 2, 0, 3]), [0])
        self.assertEqual(ri_moves(3, 0, 2, [0, 1, 1, 2], [0, 0, 1, 1, 0, 1]), [1])


class StandingBadly(Frames):
    def test_two_joints_at_one_place(self):
        for place in ((0, 0), (7, -3), (1000, 1000), (-1000, 1000)):
            self.check(2, (0, 1), [], [place, place], 0)
            self.check(2, (0, 1), [(0, 1)], [place, place], 0)

    def test_two_of_three_at_one_place(self):
        places = [(4, 4), (4, 4), (9, 1)]
        self.check_all(3, [], places, [(0, 2), (1, 2)])
        self.check_all(3, [(0, 1)], places, [(0, 2), (1, 2)])
        self.check_all(3, [(0, 2)], places, [(1, 2)])
        self.check_all(3, [(0, 1), (1, 2)], places, [(0, 2)])
        self.check_all(3, TRIANGLE, places, [])

    def test_one_number_in_common_alone(self):
        self.check(2, (0, 1), [], [(4, 4), (4, 5)], 1)
        self.check(2, (0, 1), [], [(4, 4), (5, 4)], 1)

    def test_three_in_a_line(self):
        for places in ([(0, 0), (1, 0), (5, 0)], [(2, 4), (2, -1), (2, -8)], [(-3, -5), (1, 1), (5, 7)]):
            self.check_all(3, [(0, 1), (1, 2)], places, [])
            self.check_all(3, [(0, 1), (0, 2)], places, [])
            self.check_all(3, [(0, 1)], places, [(0, 2), (1, 2)])
            self.check_all(3, [(1, 2)], places, [(0, 1), (0, 2)])
            self.check_all(3, [(0, 2)], places, [(0, 1), (1, 2)])

    def test_near_and_yet_not_in_a_line(self):
        self.check(3, (0, 2), [(0, 1), (1, 2)], [(-1000, -1000), (0, 0), (1000, 1000)], 0)
        self.check(3, (0, 2), [(0, 1), (1, 2)], [(-1000, -1000), (0, 0), (1000, 999)], 1)
        self.check(3, (0, 2), [(0, 1), (1, 2)], [(-999, -1000), (0, 0), (999, 1000)], 0)
        self.check(3, (0, 2), [(0, 1), (1, 2)], [(-999, -1000), (0, 0), (998, 999)], 1)

    def test_all_in_a_line(self):
        bars = [(0, 3), (3, 5), (5, 7), (1, 2), (2, 4), (4, 1)]
        pieces = (0, 1, 1, 0, 1, 0, 2, 0)
        apart = [(u, v) for u, v in all_pairs(range(8)) if pieces[u] != pieces[v]]
        self.check_all(8, bars, [(3 * v - 7, 5 * v + 1) for v in range(8)], apart)
        self.check_all(8, bars, [(6, 90 - v) for v in range(8)], apart)
        self.check_all(12, [(v, v + 1) for v in range(11)], [(v, 0) for v in range(12)], [])

    def test_all_at_one_place(self):
        for n in (3, 4, 12):
            for bars in ([], [(0, 1)], all_pairs(range(n))):
                self.check_all(n, bars, [(17, -400)] * n, [])

    def test_moving_by_its_places_alone(self):
        bars = SQUARE + [(0, 2)]
        places = [(0, 0), (1, 0), (2, 0), (1, 5)]
        self.assertEqual(ri_kept(4, flat(bars))[0], 5)
        self.assertEqual(ri_rank(4, flat(bars), flat(places)), [4])
        self.check_all(4, bars, places, [(1, 3)])
        self.check_all(4, bars, [(0, 0), (1, 1), (2, 0), (1, 5)], [])

    def test_prism(self):
        self.assertEqual(ri_kept(6, flat(PRISM))[0], 9)
        self.assertEqual(ri_parts(6, 1, flat(PRISM)), [1, 63])
        self.check_all(6, PRISM, APART, [])
        self.check_all(6, PRISM, LEVEL, [(0, 4), (0, 5), (1, 3), (1, 5), (2, 3), (2, 4)])
        self.check_all(6, PRISM, MEETING, [(0, 4), (0, 5), (1, 3), (1, 5), (2, 3), (2, 4)])

    def test_three_by_three_on_a_circle(self):
        self.assertEqual(ri_kept(6, flat(THREE_BY_THREE))[0], 9)
        self.assertEqual(ri_rank(6, flat(THREE_BY_THREE), flat(CIRCLE)), [8])
        same_side = all_pairs((0, 1, 2)) + all_pairs((3, 4, 5))
        self.check_all(6, THREE_BY_THREE, CIRCLE, same_side)
        self.check_all(6, THREE_BY_THREE, [(200 * x, 200 * y) for x, y in CIRCLE], same_side)
        self.check_all(6, THREE_BY_THREE, CIRCLE[:5] + [(0, 6)], [])

    def test_kept_by_its_places_alone(self):
        places = [(0, 0), (1, 0), (2, 0), (1, 5)]
        self.assertEqual(ri_parts(4, 4, flat(SQUARE)), [4, 3, 6, 9, 12])
        self.check_all(4, SQUARE, places, [(1, 3)])
        self.check_all(4, SQUARE, [(0, 0), (1, 1), (2, 0), (1, 5)], [(0, 2), (1, 3)])


class ByTheWords(unittest.TestCase):
    def check(self, n, pairs, places, some):
        ways = ways_to_move(n, pairs, places)
        for u, v in some:
            with self.subTest(n=n, u=u, v=v, pairs=pairs, places=places):
                expected = moves_by_words(u, v, ways, places)
                self.assertEqual(moves(n, u, v, pairs, places), expected)
                self.assertEqual(moves(n, v, u, pairs, places), expected)

    def test_small_frames(self):
        for k, (n, pairs) in enumerate(small_frames()):
            ends = shuffled(all_pairs(range(n)), k)[:8]
            for reach in (1, 2, 1000):
                self.check(n, pairs, some_places(n, reach, k), ends)
            self.check(n, pairs, [(v * (k % 3), v * (k % 7)) for v in range(n)], ends)

    def test_frames_up_to_12(self):
        for n in (9, 10, 11, 12):
            pairs = all_pairs(range(n))
            for seed in range(12):
                some = shuffled(pairs, n + seed)[: (seed + 1) * len(pairs) // 15]
                places = some_places(n, (1, 3, 40, 1000)[seed % 4], seed)
                self.check(n, some, places, shuffled(pairs, seed)[:6])

    def test_full_frames_up_to_12(self):
        for n in range(6, 13):
            for seed in range(6):
                for reach in (1, 2, 5):
                    pairs = full_frame(n, seed)
                    places = some_places(n, reach, seed)
                    self.check(n, pairs, places, shuffled(all_pairs(range(n)), seed)[:5])

    def test_full_frames_without_one_bar(self):
        for n in range(4, 13):
            pairs = full_frame(n, 3 * n)
            places = some_places(n, 1000, n)
            for i in range(len(pairs)):
                self.check(n, pairs[:i] + pairs[i + 1:], places, [pairs[i]])

    def test_1_just_if_one_equation_more_is_needed(self):
        for k, (n, pairs) in enumerate(small_frames()):
            places = some_places(n, 2, k)
            u, v = shuffled(range(n), k)[:2]
            more = rank_by_words(n, pairs + [(u, v)], places)[0] - rank_by_words(n, pairs, places)[0]
            self.assertEqual(moves(n, u, v, pairs, places), [more])

    def test_well_apart_1_just_if_not_fixed(self):
        for n, pairs in small_frames():
            sets = ri_parts(n, 100, flat(pairs))[1:]
            places = some_places(n, 1000, 11)
            for u, v in all_pairs(range(n)):
                fixed = any(mask >> u & 1 and mask >> v & 1 for mask in sets)
                self.assertEqual(moves(n, u, v, pairs, places), [int(not fixed)])


class TheCountItself(unittest.TestCase):
    def test_ways_to_move(self):
        for k, (n, pairs) in enumerate(small_frames()):
            places = some_places(n, 2, k)
            ways = ways_to_move(n, pairs, places)
            self.assertEqual(len(ways), 2 * n - rank_by_words(n, pairs, places)[0])
            for way in ways:
                self.assertTrue(any(flat(way)))
                self.assertEqual([told(pair, places, way) for pair in pairs], [0] * len(pairs))


class Places(unittest.TestCase):
    def test_the_edges(self):
        for x in (-1000, 1000):
            for y in (-1000, 1000):
                for places in ([(x, y), (0, 0)], [(0, 0), (x, y)], [(x, y), (-x, -y)], [(x, y), (-x, y)]):
                    self.assertEqual(moves(2, 0, 1, [], places), [1])
                    self.assertEqual(moves(2, 0, 1, [(0, 1)], places), [0])
        self.assertEqual(moves(3, 0, 2, [(0, 1), (1, 2)], [(-1000, -1000), (1000, -1000), (1000, 1000)]), [1])

    def test_all_over_a_frame_of_12(self):
        pairs = all_pairs(range(12))
        edges = ALL_ROUND[:4]
        for u, v in pairs:
            self.assertEqual(moves(12, u, v, pairs, ALL_ROUND), [0])
        for places in (edges * 3, edges[:2] * 6, [edges[0], edges[2]] * 6, [edges[k // 3] for k in range(12)]):
            ways = ways_to_move(12, pairs, places)
            for u, v in pairs[::7]:
                self.assertEqual(moves(12, u, v, pairs, places), moves_by_words(u, v, ways, places))

    def test_as_far_out_with_one_bar_gone(self):
        for n, seed in ((11, 2), (12, 1), (12, 5)):
            pairs = full_frame(n, seed)
            for i, (u, v) in enumerate(pairs):
                self.assertEqual(moves(n, u, v, pairs[:i] + pairs[i + 1:], ALL_ROUND[:n]), [1])

    def test_outside(self):
        for n, pairs in ((2, [(0, 1)]), (2, []), (12, all_pairs(range(12))), (13, []), (13, SQUARE), (32, SQUARE)):
            for k in range(2 * n):
                for out in OUTSIDE:
                    xy = [1000] * (2 * n)
                    xy[k] = out
                    self.assertEqual(ri_moves(n, 1, 0, flat(pairs), xy), [-2])
        for out in OUTSIDE:
            self.assertEqual(ri_moves(3, 0, 2, [0, 1], [out] * 6), [-2])

    def test_outside_at_a_joint_that_has_no_part_in_it(self):
        self.assertEqual(ri_moves(4, 0, 1, [0, 1], [0, 0, 1, 0, 0, 1000, 5, 1001]), [-2])
        self.assertEqual(ri_moves(4, 0, 1, [0, 1], [0, 0, 1, 0, 0, 1000, 5, 1000]), [0])


class Refusals(unittest.TestCase):
    def test_no_frame(self):
        for n, bars in NO_FRAMES:
            with self.subTest(n=n, bars=bars):
                many = n if 2 <= n <= 32 else 0
                self.assertEqual(ri_moves(n, 0, 1, bars, [0, 0] * many), [-2])
                self.assertEqual(ri_moves(n, 1, 0, bars, flat(some_places(many, 1000, 1))), [-2])
                self.assertEqual(ri_moves(n, 0, 1, bars, [0, 5000] * many), [-2])
                self.assertEqual(ri_moves(n, 0, 0, bars, [0, 0] * many), [-2])
                self.assertEqual(ri_moves(n, -1, n, bars, [0, 0] * many), [-2])

    def test_no_frame_with_more_than_12_joints(self):
        for n in (13, 20, 32):
            for bars in ([0, n], [n, 1], [4, 4], [0, 1, 0, 1], [0, 1, 1, 0], [255, 0]):
                self.assertEqual(ri_moves(n, 0, 1, bars, flat(some_places(n, 1000, n))), [-2])

    def test_no_joint(self):
        for n in (2, 3, 8, 12, 13, 31, 32):
            xy = flat(some_places(n, 1000, n))
            for bars in ([], [0, 1]):
                for out in (LEAST, -1000, -n, -2, -1, n, n + 1, 33, 255, 256, 2 ** 31 - 1 - n, GREATEST):
                    for joint in (0, 1, n - 1):
                        self.assertEqual(ri_moves(n, out, joint, bars, xy), [-2], (n, out, joint))
                        self.assertEqual(ri_moves(n, joint, out, bars, xy), [-2], (n, joint, out))
                    self.assertEqual(ri_moves(n, out, out, bars, xy), [-2])
                self.assertEqual(ri_moves(n, LEAST, GREATEST, bars, xy), [-2])
                self.assertEqual(ri_moves(n, -1, n, bars, xy), [-2])

    def test_one_joint_twice(self):
        for n in (2, 3, 12, 13, 32):
            for joint in range(n):
                self.assertEqual(ri_moves(n, joint, joint, [0, 1], flat(some_places(n, 1000, n))), [-2])
                self.assertEqual(ri_moves(n, joint, joint, [], [0, 0] * n), [-2])

    def test_too_many_joints(self):
        for n in range(13, 33):
            places = some_places(n, 1000, n)
            for u, v in ((0, 1), (n - 1, 0), (7, n - 2)):
                self.assertEqual(moves(n, u, v, [], places), [-3])
                self.assertEqual(moves(n, u, v, [(u, v)], places), [-3])
                self.assertEqual(moves(n, u, v, all_pairs(range(n))[:96], places), [-3])
                self.assertEqual(moves(n, u, v, SQUARE, [(0, 0)] * n), [-3])

    def test_edges_of_n(self):
        self.assertEqual(ri_moves(2, 1, 0, [1, 0], [0, 0, 1, 1]), [0])
        self.assertEqual(ri_moves(2, 1, 0, [], [0, 0, 1, 1]), [1])
        self.assertEqual(moves(12, 10, 11, [], some_places(12, 9, 2)), [1])
        self.assertEqual(moves(12, 11, 10, [(10, 11)], some_places(12, 9, 2)), [0])
        self.assertEqual(moves(13, 10, 11, [(10, 11)], some_places(13, 9, 2)), [-3])
        self.assertEqual(moves(13, 11, 12, [], some_places(13, 9, 2)), [-3])
        self.assertEqual(moves(32, 30, 31, [(30, 31)], some_places(32, 9, 2)), [-3])
        for n in (1, 0, -1, -2, LEAST, 33, 34, GREATEST):
            for bars in ([], [0, 1], flat(SQUARE)):
                self.assertEqual(ri_moves(n, 0, 1, bars, []), [-2])
                self.assertEqual(ri_moves(n, 1, 1, bars, []), [-2])


class Calls(unittest.TestCase):
    def test_nothing_is_changed_or_kept(self):
        for n, pairs, places in (
            (4, SQUARE, CORNERS), (4, all_pairs(range(4)), CORNERS),
            (12, all_pairs(range(12)), some_places(12, 1000, 4)), (6, PRISM, LEVEL),
            (13, SQUARE, some_places(13, 5, 4)), (3, TRIANGLE, [(0, 0), (0, 1001), (0, 0)]),
        ):
            bars = Untouched(flat(pairs))
            xy = Untouched(flat(places))
            first = ri_moves(n, 0, 2, bars, xy)
            self.assertEqual(ri_moves(3, 0, 1, [0, 1, 0, 1], [0] * 6), [-2])
            self.assertEqual(ri_moves(3, 0, 1, [2, 1], [0, 0, 1, 1, 2, 2]), [1])
            self.assertEqual(ri_moves(3, 2, 1, [2, 1], [0, 0, 1, 1, 2, 2]), [0])
            self.assertEqual(ri_moves(n, 0, 2, bars, xy), first)
            self.assertEqual(list(bars), flat(pairs))
            self.assertEqual(list(xy), flat(places))

    def test_an_answer_is_its_caller_s_own(self):
        for n, bars, xy in ((2, [0, 1], [0, 0, 1, 1]), (2, [], [0, 0, 1, 1]), (13, [0, 1], [0] * 26), (1, [], [])):
            first = ri_moves(n, 0, 1, bars, xy)
            ri_moves(n, 0, 1, bars, xy).append(9)
            self.assertEqual(ri_moves(n, 0, 1, bars, xy), first)

    def test_kinds(self):
        for answer, expected in (
            (moves(4, 0, 2, SQUARE, CORNERS), 1), (moves(4, 0, 1, SQUARE, CORNERS), 0),
            (ri_moves(2, 0, 1, [], [0] * 4), 0), (ri_moves(2, 0, 1, [], [0, 0, 1, 1]), 1),
            (ri_moves(13, 0, 1, [], [0] * 26), -3), (ri_moves(1, 0, 1, [], []), -2),
        ):
            self.assertIs(type(answer), list)
            self.assertEqual(answer, [expected])
            self.assertIs(type(answer[0]), int)


if __name__ == "__main__":
    unittest.main()
