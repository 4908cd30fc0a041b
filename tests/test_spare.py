"""Promise 4, ri_spare."""

import unittest

from barframe.frames import ri_kept, ri_spare
from tests.helper import (
    NO_FRAMES, SQUARE, Untouched, all_pairs, count_and_mask, flat, shuffled, small_frames, spare_by_words, turned,
)


def spare(n, pairs):
    return ri_spare(n, flat(pairs))


class OrdinaryFrames(unittest.TestCase):
    def check(self, n, pairs, answer):
        self.assertEqual(spare(n, pairs), answer)
        self.assertEqual(spare(n, turned(pairs)), answer)

    def test_no_bars(self):
        for n in (2, 3, 8, 32):
            self.assertEqual(ri_spare(n, []), [0, 0, 0, 0])

    def test_none_where_all_are_kept(self):
        three_by_three = [(a, b) for a in (0, 1, 2) for b in (3, 4, 5)]
        for n, pairs in (
            (2, [(0, 1)]), (8, [(7, 3)]), (3, all_pairs(range(3))), (4, SQUARE), (4, SQUARE + [(0, 2)]),
            (5, all_pairs((0, 1, 2)) + all_pairs((2, 3, 4))), (6, three_by_three),
        ):
            self.assertEqual(ri_kept(n, flat(pairs))[0], len(pairs))
            self.check(n, pairs, [0, 0, 0, 0])

    def test_all_bars(self):
        self.check(4, all_pairs(range(4)), [6, 63, 0, 0])
        self.check(5, all_pairs(range(5)), [10, 1023, 0, 0])
        self.check(8, all_pairs(range(8)), [28, 2 ** 28 - 1, 0, 0])

    def test_kept_and_spare_all_the_same(self):
        bars = flat(all_pairs(range(4)))
        self.assertEqual(ri_kept(4, bars), [5, 31, 0, 0])
        self.assertEqual(ri_spare(4, bars), [6, 63, 0, 0])

    def test_kept_and_not_spare(self):
        self.check(5, all_pairs(range(4)) + [(3, 4)], [6, 63, 0, 0])
        self.check(5, [(3, 4)] + all_pairs(range(4)) + [(4, 0)], [6, 63 << 1, 0, 0])

    def test_not_kept_is_spare(self):
        for n, pairs in small_frames():
            kept = ri_kept(n, flat(pairs))[1]
            some = spare(n, pairs)[1]
            self.assertEqual((kept | some), (1 << len(pairs)) - 1, pairs)

    def test_wheel(self):
        rim = [(1, 2), (2, 3), (3, 4), (4, 5), (5, 1)]
        self.check(6, rim + [(0, v) for v in range(1, 6)], [10, 1023, 0, 0])

    def test_several_pieces(self):
        self.check(8, all_pairs((1, 3, 5)) + all_pairs((0, 2, 4, 6)) + [(7, 5)], [6, 63 << 3, 0, 0])
        two = all_pairs((0, 1, 2, 3)) + all_pairs((4, 5, 6, 7))
        self.check(8, two, [12, 4095, 0, 0])
        self.check(8, two + [(0, 4), (1, 5), (2, 6)], [12, 4095, 0, 0])
        self.check(8, two + [(0, 4), (1, 5), (2, 6), (3, 7)], [16, 65535, 0, 0])

    def test_pieces_with_a_joint_in_common(self):
        bars = all_pairs((0, 1, 2, 3)) + all_pairs((3, 4, 5)) + [(5, 6)]
        self.check(8, bars, [6, 63, 0, 0])

    def test_order_of_bars(self):
        bars = all_pairs((0, 1, 2, 3)) + all_pairs((3, 4, 5)) + [(5, 6), (6, 7), (4, 7)]
        for seed in range(30):
            mixed = shuffled(bars, seed)
            numbers = [i for i, pair in enumerate(mixed) if pair in bars[:6]]
            self.check(8, mixed, count_and_mask(numbers))


class ByTheWords(unittest.TestCase):
    def test_small_frames(self):
        for n, pairs in small_frames():
            with self.subTest(n=n, pairs=pairs):
                self.assertEqual(spare(n, pairs), spare_by_words(pairs))


class Masks(unittest.TestCase):
    def test_all_three_numbers(self):
        fan = [(end, v) for v in range(12, 27) for end in (0, v - 1)]
        full = 2 ** 32 - 1
        self.assertEqual(spare(32, all_pairs(range(12)) + fan), [66, full, full, 3])
        self.assertEqual(spare(32, fan + all_pairs(range(12))), [66, 3 << 30, full, full])

    def test_bars_around_the_first_edge(self):
        strip = [(0, 1)] + [(end, v) for v in range(2, 17) for end in (v - 2, v - 1)]
        bars = strip[:30] + all_pairs((20, 21, 22, 23))
        self.assertEqual(spare(24, bars), [6, 3 << 30, 15, 0])


class NoFrames(unittest.TestCase):
    def test_refused(self):
        for n, bars in NO_FRAMES:
            with self.subTest(n=n, bars=bars):
                self.assertEqual(ri_spare(n, bars), [-2])

    def test_edges_of_n(self):
        self.assertEqual(ri_spare(2, [1, 0]), [0, 0, 0, 0])
        self.assertEqual(spare(8, all_pairs((4, 5, 6, 7))), [6, 63, 0, 0])
        for n in (1, 0, -1, -2147483648, 33, 34, 2147483647):
            self.assertEqual(ri_spare(n, []), [-2])
            self.assertEqual(spare(n, all_pairs(range(4))), [-2])


class Calls(unittest.TestCase):
    def test_nothing_is_changed_or_kept(self):
        bars = flat(all_pairs(range(8)))
        handed = Untouched(bars)
        first = ri_spare(8, handed)
        self.assertEqual(ri_spare(3, [0, 1, 0, 1]), [-2])
        self.assertEqual(ri_spare(3, [2, 1]), [0, 0, 0, 0])
        self.assertEqual(ri_spare(8, handed), first)
        self.assertEqual(list(handed), bars)

    def test_an_answer_is_its_caller_s_own(self):
        ri_spare(3, [0, 1]).append(9)
        ri_spare(1, []).append(9)
        self.assertEqual(ri_spare(3, [0, 1]), [0, 0, 0, 0])
        self.assertEqual(ri_spare(1, []), [-2])

    def test_kinds(self):
        for answer in (ri_spare(4, flat(all_pairs(range(4)))), ri_spare(3, []), ri_spare(0, [])):
            self.assertIs(type(answer), list)
            self.assertTrue(all(type(number) is int for number in answer))


if __name__ == "__main__":
    unittest.main()
