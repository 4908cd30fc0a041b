"""Promise 5, ri_steps."""

import unittest

from barframe.frames import ri_kept, ri_steps
from tests.helper import (
    NO_FRAMES, PRISM, SQUARE, THREE_BY_THREE, Untouched, all_pairs, flat, full_frame, full_frames, in_order, shuffled,
    small_frames, steps_by_words, turned,
)

LARGEST = 2147483647
TRIANGLE = [(0, 1), (1, 2), (2, 0)]


def steps(n, pairs, most=LARGEST):
    return ri_steps(n, most, flat(pairs))


def kite(tip, low, high, far):
    """Two triangles with the bar low high in common, so that tip and far are fixed with no bar between them."""
    return [(tip, low), (tip, high), (low, high), (low, far), (high, far)]


def answer_of(*rows):
    return [len(rows)] + flat(rows)


class OrdinaryFrames(unittest.TestCase):
    def check(self, n, pairs, *rows):
        self.assertTrue(in_order(pairs))
        answer = answer_of(*rows)
        self.assertEqual(steps(n, pairs), answer)
        self.assertEqual(steps(n, turned(pairs)), answer)
        for seed in range(6):
            mixed = shuffled(pairs, seed)
            self.assertEqual(steps(n, [pair[::-1] if i % 2 else pair for i, pair in enumerate(mixed)]), answer)

    def test_two_joints(self):
        self.check(2, [(0, 1)])
        self.assertEqual(ri_steps(2, 5, [1, 0]), [0])

    def test_triangle(self):
        self.check(3, TRIANGLE, (0, 1, 2, 255, 255))

    def test_two_triangles_with_a_bar_in_common(self):
        self.check(4, kite(0, 1, 2, 3), (0, 1, 2, 255, 255), (1, 2, 3, 255, 255))
        self.check(4, kite(1, 0, 3, 2), (1, 0, 3, 255, 255), (0, 2, 3, 255, 255))
        self.check(4, kite(2, 0, 1, 3), (2, 0, 1, 255, 255), (0, 1, 3, 255, 255))

    def test_a_joint_with_two_bars_at_each_step(self):
        strip = [(0, 1)] + [(end, v) for v in range(2, 8) for end in (v - 2, v - 1)]
        self.check(8, strip, *[(v, v + 1, v + 2, 255, 255) for v in range(6)])
        fan = [(0, 1)] + [(end, v) for v in range(2, 6) for end in (0, v - 1)]
        self.check(
            6, fan,
            (1, 0, 2, 255, 255), (2, 0, 3, 255, 255), (3, 0, 4, 255, 255), (0, 4, 5, 255, 255),
        )

    def test_the_least_is_sought_anew_at_each_step(self):
        fan = [(7, 6)] + [(end, v) for v in range(5, -1, -1) for end in (7, v + 1)]
        self.check(8, fan, *[(v, v + 1, 7, 255, 255) for v in range(6)])
        back = [(0, 5)] + [(end, v) for v in (4, 3, 2, 1) for end in (0, v + 1)]
        self.check(
            6, back,
            (1, 0, 2, 255, 255), (2, 0, 3, 255, 255), (3, 0, 4, 255, 255), (0, 4, 5, 255, 255),
        )
        self.check(
            5, kite(4, 2, 3, 1) + [(4, 0), (3, 0)],
            (0, 3, 4, 255, 255), (1, 2, 3, 255, 255), (2, 3, 4, 255, 255),
        )
        self.check(
            5, kite(0, 1, 3, 2) + [(0, 4), (1, 4)],
            (2, 1, 3, 255, 255), (3, 0, 1, 255, 255), (0, 1, 4, 255, 255),
        )

    def test_two_bars_come_ahead_of_three(self):
        self.check(
            7, THREE_BY_THREE + [(6, 0), (6, 3)],
            (6, 0, 3, 255, 255), (0, 3, 4, 5, 0), (5, 1, 2, 255, 255), (1, 3, 4, 255, 255), (2, 3, 4, 255, 255),
        )

    def test_a_bar_comes_as_0(self):
        self.check(
            6, THREE_BY_THREE,
            (0, 3, 4, 5, 0), (5, 1, 2, 255, 255), (1, 3, 4, 255, 255), (2, 3, 4, 255, 255),
        )

    def test_a_bar_comes_as_1_where_the_first_pair_has_one(self):
        self.check(
            6, PRISM,
            (0, 1, 2, 3, 1), (2, 1, 5, 255, 255), (1, 3, 4, 255, 255), (3, 4, 5, 255, 255),
        )

    def test_a_bar_comes_as_2_where_the_first_two_pairs_have_one(self):
        bars = [(0, 1), (0, 3), (0, 6), (1, 3), (1, 6), (2, 4), (2, 5), (2, 6), (3, 4), (3, 5), (4, 5)]
        self.check(
            7, bars,
            (0, 1, 3, 6, 2), (1, 3, 6, 255, 255), (6, 2, 3, 255, 255), (2, 4, 5, 255, 255), (3, 4, 5, 255, 255),
        )

    def test_a_bar_comes_as_1_where_the_first_pair_is_not_in_order(self):
        bars = kite(4, 1, 7, 5) + [(0, 4), (0, 5), (0, 6), (2, 3), (2, 6), (2, 7), (3, 4), (3, 6)]
        left = [pair for pair in bars if 0 not in pair]
        self.assertNotIn((4, 5), left)
        self.assertFalse(in_order(left + [(4, 5)]))
        self.assertEqual(steps(8, bars)[:6], [6, 0, 4, 5, 6, 1])
        self.check(
            8, bars,
            (0, 4, 5, 6, 1), (5, 1, 7, 255, 255), (1, 4, 7, 255, 255), (7, 2, 4, 255, 255), (2, 3, 6, 255, 255),
            (3, 4, 6, 255, 255),
        )

    def test_a_bar_comes_as_2_where_the_first_two_pairs_are_not_in_order(self):
        self.check(
            8, kite(0, 5, 7, 2) + kite(0, 4, 6, 3) + [(1, 0), (1, 2), (1, 3)],
            (1, 0, 2, 3, 2), (2, 3, 5, 7, 0), (7, 0, 5, 255, 255), (5, 0, 3, 255, 255), (0, 4, 6, 255, 255),
            (3, 4, 6, 255, 255),
        )

    def test_the_first_pair_though_another_is_not_in_order(self):
        bars = kite(3, 4, 5, 7) + [(0, 3), (0, 6), (0, 7), (1, 2), (1, 3), (1, 6), (2, 4), (2, 6)]
        left = [pair for pair in bars if 0 not in pair]
        self.assertFalse(in_order(left + [(3, 7)]))
        self.assertEqual(steps(8, bars)[:6], [6, 0, 3, 6, 7, 0])

    def test_a_bar_that_came_counts_later_on(self):
        answer = steps(6, THREE_BY_THREE)
        self.assertNotIn((3, 4), THREE_BY_THREE)
        self.assertEqual(answer[1:6], [0, 3, 4, 5, 0])
        self.assertEqual(answer[-5:], [2, 3, 4, 255, 255])

    def test_a_joint_with_three_twice(self):
        ring = [(v, (v + 1) % 8) for v in range(8)]
        bars = ring + [(0, 4), (1, 5), (2, 6), (3, 7), (0, 2)]
        self.check(
            8, bars,
            (1, 0, 2, 5, 1), (2, 0, 3, 6, 0), (6, 5, 7, 255, 255), (5, 0, 4, 255, 255), (4, 0, 3, 255, 255),
            (0, 3, 7, 255, 255),
        )


class ByTheWords(unittest.TestCase):
    def check(self, n, pairs):
        answer = steps_by_words(n, pairs)
        with self.subTest(n=n, pairs=pairs):
            self.assertEqual(steps(n, pairs), answer)
            self.assertEqual(steps(n, turned(pairs[::-1])), answer)
        return answer

    def test_full_frames(self):
        seen = set()
        for n, pairs in full_frames():
            answer = self.check(n, pairs)
            self.assertEqual((answer[0], len(answer)), (n - 2, 1 + 5 * (n - 2)))
            seen.update(answer[5::5])
        self.assertEqual(seen, {0, 1, 2, 255})

    def test_other_numbers_for_the_joints(self):
        kites = kite(0, 5, 7, 2) + kite(0, 4, 6, 3) + [(1, 0), (1, 2), (1, 3)]
        ring = [(v, (v + 1) % 8) for v in range(8)] + [(0, 4), (1, 5), (2, 6), (3, 7), (0, 2)]
        seen = set()
        for pairs in (kites, ring):
            for seed in range(150):
                names = shuffled(range(8), seed)
                seen.update(self.check(8, [(names[a], names[b]) for a, b in pairs])[5::5])
        self.assertEqual(seen, {0, 1, 2, 255})

    def test_small_frames(self):
        for n, pairs in small_frames():
            self.check(n, pairs)

    def test_order_of_bars(self):
        for seed in range(20):
            pairs = full_frame(8, seed)
            answer = steps(8, pairs)
            for other in range(5):
                self.assertEqual(steps(8, shuffled(pairs, other)), answer)


class Most(unittest.TestCase):
    def test_below_0(self):
        for most in (-1, -2, -2147483648):
            for n, pairs in ((2, [(0, 1)]), (3, TRIANGLE), (6, PRISM), (4, SQUARE), (4, []), (1, [])):
                self.assertEqual(steps(n, pairs, most), [-2])

    def test_just_as_many_and_one_more(self):
        for n, pairs in ((3, TRIANGLE), (4, kite(0, 1, 2, 3)), (6, PRISM), (6, THREE_BY_THREE), (8, full_frame(8, 3))):
            whole = steps(n, pairs)
            self.assertEqual(whole[0], n - 2)
            for most in (n - 2, n - 1, n, 5 * n, LARGEST):
                self.assertEqual(steps(n, pairs, most), whole)
            for most in range(n - 2):
                self.assertEqual(steps(n, pairs, most), [-1])

    def test_0(self):
        self.assertEqual(steps(2, [(0, 1)], 0), [0])
        self.assertEqual(steps(3, TRIANGLE, 0), [-1])
        self.assertEqual(steps(8, full_frame(8, 3), 0), [-1])


class NotFull(unittest.TestCase):
    def check(self, n, pairs):
        for most in (0, 1, 6, LARGEST):
            self.assertEqual(steps(n, pairs, most), [-3])
            self.assertEqual(steps(n, turned(pairs[::-1]), most), [-3])

    def test_fewer(self):
        for n in (2, 3, 8):
            self.check(n, [])
        self.check(3, TRIANGLE[:2])
        self.check(4, SQUARE)
        self.check(4, TRIANGLE)
        self.check(5, all_pairs((0, 1, 2)) + all_pairs((2, 3, 4)))
        self.check(8, full_frame(8, 5)[1:])

    def test_more(self):
        self.check(4, all_pairs(range(4)))
        self.check(5, all_pairs(range(5)))
        self.check(6, PRISM + [(0, 4)])
        self.check(8, all_pairs(range(8)))

    def test_as_many_but_not_all_kept(self):
        bars = all_pairs(range(4)) + [(3, 4)]
        self.assertEqual(len(bars), 2 * 5 - 3)
        self.assertEqual(ri_kept(5, flat(bars))[0], 6)
        self.check(5, bars)
        self.check(6, all_pairs(range(4)) + [(3, 4), (4, 5), (0, 5)])
        self.check(8, all_pairs((0, 1, 2, 3)) + all_pairs((4, 5, 6, 7)) + [(0, 4)])

    def test_fewer_and_not_all_kept(self):
        self.check(8, all_pairs(range(4)))


class NoFrames(unittest.TestCase):
    def test_refused_whatever_most_is(self):
        for n, bars in NO_FRAMES:
            for most in (0, 1, 100, LARGEST, -1):
                with self.subTest(n=n, bars=bars, most=most):
                    self.assertEqual(ri_steps(n, most, bars), [-2])

    def test_edges_of_n(self):
        self.assertEqual(ri_steps(2, 0, [0, 1]), [0])
        self.assertEqual(steps(8, full_frame(8, 1))[0], 6)
        for n in (1, 0, -1, -2147483648, 33, 34, 2147483647):
            for pairs in ([], [(0, 1)], TRIANGLE):
                self.assertEqual(steps(n, pairs), [-2])
                self.assertEqual(steps(n, pairs, 0), [-2])

    def test_up_to_32(self):
        strip = [(0, 1)] + [(end, v) for v in range(2, 32) for end in (v - 2, v - 1)]
        self.assertEqual(steps(32, strip), answer_of(*[(v, v + 1, v + 2, 255, 255) for v in range(30)]))


class Calls(unittest.TestCase):
    def test_nothing_is_changed_or_kept(self):
        for n, pairs in ((6, PRISM), (8, full_frame(8, 3)), (8, all_pairs(range(8)))):
            handed = Untouched(flat(pairs))
            first = ri_steps(n, 9, handed)
            self.assertEqual(ri_steps(3, 9, [0, 1, 0, 1]), [-2])
            self.assertEqual(ri_steps(3, 9, [2, 1, 1, 0, 0, 2]), [1, 0, 1, 2, 255, 255])
            self.assertEqual(ri_steps(n, 9, handed), first)
            self.assertEqual(list(handed), flat(pairs))

    def test_an_answer_is_its_caller_s_own(self):
        for n, most, pairs in ((3, 9, TRIANGLE), (3, 0, TRIANGLE), (3, 9, []), (3, -1, [])):
            first = steps(n, pairs, most)
            steps(n, pairs, most).append(9)
            self.assertEqual(steps(n, pairs, most), first)

    def test_kinds(self):
        for answer in (steps(6, PRISM), steps(2, [(0, 1)]), steps(3, TRIANGLE, 0), steps(4, SQUARE), steps(0, [])):
            self.assertIs(type(answer), list)
            self.assertTrue(all(type(number) is int for number in answer))


if __name__ == "__main__":
    unittest.main()
