"""Promise 2, ri_parts."""

import unittest

from barframe.frames import ri_parts
from tests.helper import (
    NO_FRAMES, SQUARE, Untouched, all_pairs, flat, parts_by_words, shuffled, small_frames, turned,
)

LARGEST = 2147483647


def parts(n, pairs, most=LARGEST):
    return ri_parts(n, most, flat(pairs))


class OrdinaryFrames(unittest.TestCase):
    def test_no_bars(self):
        for n in (2, 3, 8):
            self.assertEqual(parts(n, []), [0])

    def test_one_bar(self):
        self.assertEqual(parts(2, [(0, 1)]), [1, 3])
        self.assertEqual(parts(8, [(7, 2)]), [1, 132])

    def test_triangle(self):
        self.assertEqual(parts(3, [(0, 1), (1, 2), (2, 0)]), [1, 7])

    def test_two_triangles_with_a_bar_in_common(self):
        self.assertEqual(parts(4, [(0, 1), (1, 2), (0, 2), (1, 3), (2, 3)]), [1, 15])

    def test_two_sets_with_a_joint_in_common(self):
        self.assertEqual(parts(5, all_pairs((0, 1, 2)) + all_pairs((2, 3, 4))), [2, 7, 28])

    def test_square(self):
        self.assertEqual(parts(4, SQUARE), [4, 3, 6, 9, 12])
        self.assertEqual(parts(4, SQUARE + [(0, 2)]), [1, 15])
        self.assertEqual(parts(4, SQUARE + [(0, 2), (1, 3)]), [1, 15])

    def test_all_bars(self):
        self.assertEqual(parts(4, all_pairs(range(4))), [1, 15])
        self.assertEqual(parts(5, all_pairs(range(5))), [1, 31])
        self.assertEqual(parts(8, all_pairs(range(8))), [1, 255])

    def test_fixed_with_no_bar_between(self):
        self.assertEqual(parts(6, [(a, b) for a in (0, 1, 2) for b in (3, 4, 5)]), [1, 63])

    def test_three_triangles_in_a_ring_are_one_set(self):
        ring = all_pairs((0, 1, 2)) + all_pairs((2, 3, 4)) + all_pairs((0, 4, 5))
        self.assertEqual(parts(6, ring), [1, 63])

    def test_several_pieces(self):
        bars = all_pairs((0, 2, 4, 6)) + all_pairs((1, 3, 5)) + [(7, 5)]
        self.assertEqual(parts(8, bars), [3, 42, 85, 160])

    def test_order_does_not_matter(self):
        bars = all_pairs((0, 1, 2, 3)) + all_pairs((3, 4, 5)) + [(5, 6), (6, 7), (4, 7)]
        for seed in range(30):
            mixed = shuffled(bars, seed)
            self.assertEqual(parts(8, mixed), [5, 15, 56, 96, 144, 192])
            self.assertEqual(parts(8, turned(mixed)), [5, 15, 56, 96, 144, 192])

    def test_masks_up_to_joint_31(self):
        self.assertEqual(parts(32, [(31, 0), (30, 31)]), [2, 2 ** 31 + 1, 2 ** 31 + 2 ** 30])


class ByTheWords(unittest.TestCase):
    def test_small_frames(self):
        for n, pairs in small_frames():
            with self.subTest(n=n, pairs=pairs):
                self.assertEqual(parts(n, pairs), parts_by_words(n, pairs))


class Most(unittest.TestCase):
    def test_below_0(self):
        for most in (-1, -2, -2147483648):
            self.assertEqual(parts(4, SQUARE, most), [-2])
            self.assertEqual(parts(4, [], most), [-2])
            self.assertEqual(parts(1, [], most), [-2])

    def test_just_as_many_and_one_more(self):
        self.assertEqual(parts(4, SQUARE, 5), [4, 3, 6, 9, 12])
        self.assertEqual(parts(4, SQUARE, 4), [4, 3, 6, 9, 12])
        self.assertEqual(parts(4, SQUARE, 3), [-1])
        self.assertEqual(parts(4, SQUARE, 1), [-1])
        self.assertEqual(parts(8, all_pairs(range(8)), 1), [1, 255])

    def test_0(self):
        self.assertEqual(parts(4, SQUARE, 0), [-1])
        self.assertEqual(parts(2, [(0, 1)], 0), [-1])
        self.assertEqual(parts(2, [], 0), [0])
        self.assertEqual(parts(8, [], 0), [0])


class NoFrames(unittest.TestCase):
    def test_refused_whatever_most_is(self):
        for n, bars in NO_FRAMES:
            for most in (0, 1, 100, LARGEST, -1):
                with self.subTest(n=n, bars=bars, most=most):
                    self.assertEqual(ri_parts(n, most, bars), [-2])


class Calls(unittest.TestCase):
    def test_nothing_is_changed_or_kept(self):
        bars = flat(SQUARE + [(0, 2), (1, 3), (3, 4)])
        handed = Untouched(bars)
        first = ri_parts(5, 9, handed)
        self.assertEqual(ri_parts(5, 1, handed), [-1])
        self.assertEqual(ri_parts(3, 9, [2, 1]), [1, 6])
        self.assertEqual(ri_parts(5, 9, handed), first)
        self.assertEqual(first, [2, 15, 24])
        self.assertEqual(list(handed), bars)

    def test_an_answer_is_its_caller_s_own(self):
        ri_parts(3, 9, [0, 1]).append(9)
        ri_parts(3, 0, [0, 1]).append(9)
        self.assertEqual(ri_parts(3, 9, [0, 1]), [1, 3])
        self.assertEqual(ri_parts(3, 0, [0, 1]), [-1])

    def test_kinds(self):
        for answer in (ri_parts(3, 9, [0, 1, 1, 2]), ri_parts(3, 0, [0, 1]), ri_parts(0, 0, [])):
            self.assertIs(type(answer), list)
            self.assertTrue(all(type(number) is int for number in answer))


if __name__ == "__main__":
    unittest.main()
