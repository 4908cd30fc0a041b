"""Promise 1, ri_kept, and what the document says ahead of it."""

import unittest

from barframe.frames import ri_kept
from tests.helper import (
    NO_FRAMES, SQUARE, Untouched, all_pairs, flat, in_order, in_order_one_by_one, kept_by_words, shuffled,
    small_frames, turned,
)


def kept(n, pairs):
    return ri_kept(n, flat(pairs))


class OrdinaryFrames(unittest.TestCase):
    def test_no_bars(self):
        for n in (2, 3, 8):
            self.assertEqual(ri_kept(n, []), [0, 0, 0, 0])

    def test_one_bar(self):
        self.assertEqual(ri_kept(2, [0, 1]), [1, 1, 0, 0])
        self.assertEqual(ri_kept(2, [1, 0]), [1, 1, 0, 0])
        self.assertEqual(ri_kept(8, [7, 3]), [1, 1, 0, 0])

    def test_triangle(self):
        self.assertEqual(ri_kept(3, [0, 1, 1, 2, 2, 0]), [3, 7, 0, 0])

    def test_two_triangles_with_a_bar_in_common(self):
        self.assertEqual(ri_kept(4, [0, 1, 1, 2, 0, 2, 1, 3, 2, 3]), [5, 31, 0, 0])

    def test_square(self):
        self.assertEqual(kept(4, SQUARE), [4, 15, 0, 0])
        self.assertEqual(kept(4, SQUARE + [(0, 2)]), [5, 31, 0, 0])
        self.assertEqual(kept(4, SQUARE + [(0, 2), (1, 3)]), [5, 31, 0, 0])
        self.assertEqual(kept(4, [(0, 2), (1, 3)] + SQUARE), [5, 31, 0, 0])

    def test_all_bars(self):
        self.assertEqual(kept(4, all_pairs(range(4))), [5, 31, 0, 0])
        self.assertEqual(kept(5, all_pairs(range(5))), [7, 127, 0, 0])
        self.assertEqual(kept(8, all_pairs(range(8))), [13, 8191, 0, 0])

    def test_a_bar_behind_one_not_kept(self):
        bars = all_pairs(range(4)) + [(3, 4), (4, 0), (4, 1), (5, 4)]
        self.assertEqual(kept(6, bars), [8, 31 + 64 + 128 + 512, 0, 0])

    def test_several_pieces(self):
        bars = all_pairs((0, 1, 2, 3)) + all_pairs((4, 5, 6, 7))
        self.assertEqual(kept(8, bars), [10, 31 + (31 << 6), 0, 0])
        self.assertEqual(kept(8, bars + [(0, 4), (1, 5), (2, 6), (3, 7)]), [13, 31 + (31 << 6) + (7 << 12), 0, 0])

    def test_three_by_three_is_in_order(self):
        self.assertEqual(kept(6, [(a, b) for a in (0, 1, 2) for b in (3, 4, 5)]), [9, 511, 0, 0])

    def test_the_first_come_are_kept(self):
        bars = all_pairs(range(4))
        for i in range(6):
            turn = bars[i:] + bars[:i]
            self.assertEqual(kept(4, turn), [5, 31, 0, 0])
            self.assertEqual(kept(4, turned(turn)), [5, 31, 0, 0])

    def test_how_many_are_kept_is_the_same_in_any_order(self):
        bars = all_pairs((0, 1, 2, 3, 4)) + all_pairs((4, 5, 6, 7)) + [(0, 7)]
        for seed in range(30):
            self.assertEqual(kept(8, shuffled(bars, seed))[0], 13)


class ByTheWords(unittest.TestCase):
    def test_in_order_itself(self):
        self.assertTrue(in_order([(0, 1)]))
        self.assertTrue(in_order(SQUARE + [(0, 2)]))
        self.assertFalse(in_order(SQUARE + [(0, 2), (1, 3)]))

    def test_in_order_is_the_count_of_each_choice(self):
        for n, pairs in small_frames():
            if len(pairs) <= 10:
                self.assertEqual(in_order(pairs), in_order_one_by_one(pairs), pairs)

    def test_small_frames(self):
        for n, pairs in small_frames():
            with self.subTest(n=n, pairs=pairs):
                self.assertEqual(kept(n, pairs), kept_by_words(pairs))


class Masks(unittest.TestCase):
    def fan(self):
        return [(0, 1)] + [(end, v) for v in range(2, 32) for end in (0, v - 1)]

    def test_second_number(self):
        self.assertEqual(kept(32, self.fan()), [61, 2 ** 32 - 1, 2 ** 29 - 1, 0])

    def test_third_number(self):
        bars = all_pairs(range(12)) + [(end, v) for v in range(12, 27) for end in (0, v - 1)]
        self.assertEqual(len(bars), 96)
        self.assertEqual(kept(32, bars), [51, 2 ** 21 - 1, 0, 2 ** 32 - 4])

    def test_bars_around_the_first_edge(self):
        bars = all_pairs(range(8)) + [(8, v) for v in range(8)]
        self.assertEqual(kept(9, bars), [15, 8191 + (3 << 28), 0, 0])
        bars = all_pairs(range(8)) + [(0, 8), (1, 8), (2, 8), (0, 9), (1, 9), (2, 9)]
        self.assertEqual(kept(10, bars), [17, 8191 + (3 << 28) + (1 << 31), 1, 0])


class NoFrames(unittest.TestCase):
    def test_refused(self):
        for n, bars in NO_FRAMES:
            with self.subTest(n=n, bars=bars):
                self.assertEqual(ri_kept(n, bars), [-2])

    def test_edges_of_n(self):
        self.assertEqual(ri_kept(2, [1, 0]), [1, 1, 0, 0])
        self.assertEqual(ri_kept(8, [6, 7]), [1, 1, 0, 0])
        self.assertEqual(ri_kept(32, [30, 31]), [1, 1, 0, 0])


class Calls(unittest.TestCase):
    def test_nothing_is_changed_or_kept(self):
        bars = flat(all_pairs(range(8)))
        handed = Untouched(bars)
        first = ri_kept(8, handed)
        self.assertEqual(ri_kept(3, [0, 1, 0, 1]), [-2])
        self.assertEqual(ri_kept(3, [2, 1]), [1, 1, 0, 0])
        self.assertEqual(ri_kept(8, handed), first)
        self.assertEqual(list(handed), bars)

    def test_an_answer_is_its_caller_s_own(self):
        ri_kept(3, [0, 1]).append(9)
        ri_kept(1, []).append(9)
        self.assertEqual(ri_kept(3, [0, 1]), [1, 1, 0, 0])
        self.assertEqual(ri_kept(1, []), [-2])

    def test_kinds(self):
        for answer in (ri_kept(3, [0, 1, 1, 2]), ri_kept(0, [])):
            self.assertIs(type(answer), list)
            self.assertTrue(all(type(number) is int for number in answer))


if __name__ == "__main__":
    unittest.main()
