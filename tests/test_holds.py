"""Promise 3, ri_holds."""

import unittest

from barframe.frames import ri_holds, ri_kept
from tests.helper import (
    NO_FRAMES, SQUARE, Untouched, all_pairs, count_and_mask, flat, holds_by_words, shuffled, small_frames, turned,
)

OUTSIDE = (-2147483648, -33, -2, -1, 4, 5, 7, 31, 32, 255, 256, 2147483647)


def held(n, u, v, pairs):
    return ri_holds(n, u, v, flat(pairs))


def numbers_of(pairs, wanted):
    return [i for i, pair in enumerate(pairs) if set(pair) in [set(other) for other in wanted]]


class OrdinaryFrames(unittest.TestCase):
    def check(self, n, u, v, pairs, answer):
        for bars in (pairs, turned(pairs)):
            self.assertEqual(held(n, u, v, bars), answer)
            self.assertEqual(held(n, v, u, bars), answer)

    def test_square_with_a_diagonal(self):
        self.check(4, 1, 3, SQUARE + [(0, 2)], [5, 31, 0, 0])
        self.check(4, 0, 2, SQUARE + [(1, 3)], [5, 31, 0, 0])

    def test_two_triangles_with_a_bar_in_common(self):
        self.check(4, 0, 3, [(0, 1), (1, 2), (0, 2), (1, 3), (2, 3)], [5, 31, 0, 0])

    def test_all_bars(self):
        self.check(4, 2, 3, all_pairs(range(4)), [5, 31, 0, 0])
        self.check(5, 2, 3, all_pairs(range(5)), [5, 55, 0, 0])
        self.check(5, 2, 4, all_pairs(range(5)), [5, 91, 0, 0])
        self.check(5, 3, 4, all_pairs(range(5)), [5, 109, 0, 0])
        self.check(8, 2, 3, all_pairs(range(8)), [5, 391, 0, 0])
        self.check(8, 6, 7, all_pairs(range(8)), [5, 6241, 0, 0])

    def test_not_all_kept_bars_hold(self):
        strip = [(0, 1), (0, 2), (1, 2), (1, 3), (2, 3), (2, 4), (3, 4)]
        self.check(5, 0, 3, strip, [5, 31, 0, 0])
        self.check(5, 1, 4, strip, [5, 4 + 8 + 16 + 32 + 64, 0, 0])
        self.check(5, 0, 4, strip, [7, 127, 0, 0])

    def test_three_by_three(self):
        bars = [(a, b) for a in (0, 1, 2) for b in (3, 4, 5)]
        self.check(6, 0, 1, bars, [9, 511, 0, 0])
        self.check(6, 4, 5, bars, [9, 511, 0, 0])

    def test_several_pieces(self):
        bars = all_pairs((0, 2, 4)) + all_pairs((1, 3, 5, 7)) + [(2, 6), (4, 6)]
        self.check(8, 5, 7, bars, [5, 31 << 3, 0, 0])
        self.check(8, 0, 6, bars, [5, 7 + (3 << 9), 0, 0])
        self.check(8, 0, 1, bars, [-3])
        self.check(8, 6, 7, bars, [-3])

    def test_order_of_bars(self):
        strip = [(0, 1), (0, 2), (1, 2), (1, 3), (2, 3), (2, 4), (3, 4)]
        for seed in range(30):
            mixed = shuffled(strip, seed)
            self.check(8, 0, 3, mixed, count_and_mask(numbers_of(mixed, strip[:5])))

    def test_a_bar_between_that_is_not_kept(self):
        bars = SQUARE + [(0, 2), (1, 3), (3, 4), (1, 4)]
        self.check(5, 1, 3, bars, [5, 31, 0, 0])
        self.check(5, 0, 4, bars, [7, 31 + 64 + 128, 0, 0])

    def test_bars_behind_one_not_kept_have_their_own_numbers(self):
        bars = all_pairs(range(4)) + [(3, 4), (0, 4)]
        self.check(5, 1, 4, bars, [5, 1 + 4 + 16 + 64 + 128, 0, 0])


class ByTheWords(unittest.TestCase):
    def test_small_frames(self):
        for n, pairs in small_frames():
            for u, v in all_pairs(range(n)):
                answer = holds_by_words(u, v, pairs)
                with self.subTest(n=n, u=u, v=v, pairs=pairs):
                    self.assertEqual(held(n, u, v, pairs), answer)
                    self.assertEqual(held(n, v, u, pairs), answer)


class Masks(unittest.TestCase):
    def test_second_number(self):
        fan = [(0, 1)] + [(end, v) for v in range(2, 32) for end in (0, v - 1)]
        self.assertEqual(held(32, 1, 31, fan), [61, 2 ** 32 - 1, 2 ** 29 - 1, 0])
        self.assertEqual(held(32, 17, 19, fan), [5, 1 << 31, 30, 0])

    def test_third_number(self):
        bars = all_pairs(range(12)) + [(end, v) for v in range(12, 27) for end in (0, v - 1)]
        self.assertEqual(held(32, 20, 22, bars), [5, 0, 0, (1 << 18) + (15 << 20)])
        self.assertEqual(held(32, 10, 11, bars), [5, 1 + (3 << 9) + (3 << 19), 0, 0])


class NoFramesOrNoJoints(unittest.TestCase):
    def test_no_frame(self):
        for n, bars in NO_FRAMES:
            for u, v in ((0, 1), (1, 0), (2, 3), (0, 0), (-1, 0), (n, 1), (5, 2147483647)):
                with self.subTest(n=n, u=u, v=v, bars=bars):
                    self.assertEqual(ri_holds(n, u, v, bars), [-2])

    def test_no_joint(self):
        for bars in ([], SQUARE, SQUARE + [(0, 2)], all_pairs(range(4))):
            for out in OUTSIDE:
                for joint in range(4):
                    with self.subTest(out=out, joint=joint, bars=bars):
                        self.assertEqual(held(4, out, joint, bars), [-2])
                        self.assertEqual(held(4, joint, out, bars), [-2])

    def test_two_outside(self):
        for u in OUTSIDE:
            for v in OUTSIDE:
                self.assertEqual(held(4, u, v, SQUARE + [(0, 2)]), [-2])

    def test_the_same(self):
        for bars in ([], SQUARE, all_pairs(range(4))):
            for joint in range(4):
                self.assertEqual(held(4, joint, joint, bars), [-2])

    def test_edges_of_n(self):
        for u, v in ((0, 2), (2, 1), (0, 0), (1, 1), (-1, 0)):
            self.assertEqual(held(2, u, v, []), [-2])
            self.assertEqual(held(2, u, v, [(0, 1)]), [-2])
        self.assertEqual(held(8, 0, 8, all_pairs(range(8))), [-2])
        self.assertEqual(held(8, 8, 7, all_pairs(range(8))), [-2])
        for n in (1, 0, -1, -2147483648, 33, 34, 2147483647):
            self.assertEqual(held(n, 0, 1, []), [-2])
            self.assertEqual(held(n, 1, 0, SQUARE + [(0, 2)]), [-2])


class NotHeld(unittest.TestCase):
    def test_not_fixed(self):
        self.assertEqual(held(2, 0, 1, []), [-3])
        self.assertEqual(held(8, 7, 0, []), [-3])
        self.assertEqual(held(4, 0, 2, SQUARE), [-3])
        self.assertEqual(held(4, 3, 1, SQUARE), [-3])
        self.assertEqual(held(5, 0, 3, all_pairs((0, 1, 2)) + all_pairs((2, 3, 4))), [-3])

    def test_a_kept_bar_between(self):
        self.assertEqual(held(2, 0, 1, [(0, 1)]), [-3])
        self.assertEqual(held(2, 1, 0, [(0, 1)]), [-3])
        self.assertEqual(held(2, 0, 1, [(1, 0)]), [-3])
        for u, v in SQUARE + [(0, 2)]:
            self.assertEqual(held(4, u, v, SQUARE + [(0, 2), (1, 3)]), [-3])
            self.assertEqual(held(4, v, u, SQUARE + [(0, 2), (1, 3)]), [-3])

    def test_all_kept_bars_of_all_among_8(self):
        pairs = all_pairs(range(8))
        kept = ri_kept(8, flat(pairs))[1]
        for i, (u, v) in enumerate(pairs):
            self.assertEqual(held(8, u, v, pairs) == [-3], bool(kept >> i & 1), (u, v))


class Calls(unittest.TestCase):
    def test_nothing_is_changed_or_kept(self):
        bars = flat(SQUARE + [(0, 2), (1, 3), (3, 4)])
        handed = Untouched(bars)
        first = ri_holds(5, 1, 3, handed)
        self.assertEqual(ri_holds(5, 1, 4, handed), [-3])
        self.assertEqual(ri_holds(5, 1, 5, handed), [-2])
        self.assertEqual(ri_holds(5, 1, 3, handed), first)
        self.assertEqual(first, [5, 31, 0, 0])
        self.assertEqual(list(handed), bars)

    def test_an_answer_is_its_caller_s_own(self):
        bars = flat(SQUARE + [(0, 2)])
        for u, v, answer in ((1, 3, [5, 31, 0, 0]), (0, 2, [-3]), (0, 0, [-2])):
            ri_holds(4, u, v, bars).append(9)
            self.assertEqual(ri_holds(4, u, v, bars), answer)

    def test_kinds(self):
        bars = flat(SQUARE + [(0, 2)])
        for answer in (ri_holds(4, 1, 3, bars), ri_holds(4, 0, 2, bars), ri_holds(4, 4, 0, bars)):
            self.assertIs(type(answer), list)
            self.assertTrue(all(type(number) is int for number in answer))


if __name__ == "__main__":
    unittest.main()
