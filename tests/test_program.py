"""What the document says of every call: its name and arguments, what it gives back, which refusal comes first,
that nothing that is handed in is changed and nothing is kept."""

import importlib.util
import inspect
import unittest

from barframe import frames
from tests.helper import CORNERS, LEVEL, PRISM, SQUARE, Untouched, all_pairs, flat

LEAST = -2147483648
GREATEST = 2147483647

ARGUMENTS = {
    "ri_kept": ["n", "bars"],
    "ri_parts": ["n", "most", "bars"],
    "ri_holds": ["n", "u", "v", "bars"],
    "ri_spare": ["n", "bars"],
    "ri_steps": ["n", "most", "bars"],
    "ri_rank": ["n", "bars", "xy"],
    "ri_moves": ["n", "u", "v", "bars", "xy"],
}

square = flat(SQUARE)
braced = square + [0, 2]
full = square + [0, 2, 1, 3]
prism = flat(PRISM)
corners = flat(CORNERS)
level = flat(LEVEL)

# A few calls of each function, and what it answers.
ANSWERS = [
    ("ri_kept", (4, square), [4, 15, 0, 0]),
    ("ri_kept", (4, full), [5, 31, 0, 0]),
    ("ri_kept", (8, flat(all_pairs(range(8)))), [13, 8191, 0, 0]),
    ("ri_kept", (2, []), [0, 0, 0, 0]),
    ("ri_parts", (4, 10, square), [4, 3, 6, 9, 12]),
    ("ri_parts", (4, 1, braced), [1, 15]),
    ("ri_parts", (2, 0, []), [0]),
    ("ri_holds", (4, 1, 3, braced), [5, 31, 0, 0]),
    ("ri_holds", (4, 3, 1, full), [5, 31, 0, 0]),
    ("ri_spare", (4, square), [0, 0, 0, 0]),
    ("ri_spare", (4, full), [6, 63, 0, 0]),
    ("ri_steps", (4, 2, braced), [2, 1, 0, 2, 255, 255, 0, 2, 3, 255, 255]),
    ("ri_steps", (2, 0, [1, 0]), [0]),
    ("ri_rank", (4, square, corners), [4]),
    ("ri_rank", (4, full, corners), [5]),
    ("ri_rank", (6, prism, level), [8]),
    ("ri_rank", (2, [], [0, 0, 0, 0]), [0]),
    ("ri_moves", (4, 0, 2, square, corners), [1]),
    ("ri_moves", (4, 1, 3, braced, corners), [0]),
    ("ri_moves", (6, 0, 4, prism, level), [1]),
    ("ri_moves", (2, 1, 0, [], [5, 5, 5, 5]), [0]),
]

NO_PLACE = [0, 0, 1, 1001]

# A few calls for each ground to refuse, where no other is due.
REFUSALS = [
    ("ri_kept", (1, []), [-2]),
    ("ri_kept", (4, [0, 4]), [-2]),
    ("ri_parts", (33, 5, []), [-2]),
    ("ri_parts", (4, -1, []), [-2]),
    ("ri_parts", (4, 3, square), [-1]),
    ("ri_holds", (4, 1, 3, braced + [2, 0]), [-2]),
    ("ri_holds", (4, 1, 4, braced), [-2]),
    ("ri_holds", (4, 1, 3, square), [-3]),
    ("ri_holds", (4, 0, 2, braced), [-3]),
    ("ri_spare", (0, []), [-2]),
    ("ri_spare", (3, [2, 2]), [-2]),
    ("ri_steps", (LEAST, 5, []), [-2]),
    ("ri_steps", (4, -1, braced), [-2]),
    ("ri_steps", (4, 2, square), [-3]),
    ("ri_steps", (4, 2, full), [-3]),
    ("ri_steps", (4, 1, braced), [-1]),
    ("ri_rank", (GREATEST, [], []), [-2]),
    ("ri_rank", (2, [0, 1], NO_PLACE), [-2]),
    ("ri_rank", (13, [], [0] * 26), [-3]),
    ("ri_moves", (-1, 0, 1, [], []), [-2]),
    ("ri_moves", (2, 0, 1, [], NO_PLACE), [-2]),
    ("ri_moves", (2, 0, 0, [], [0] * 4), [-2]),
    ("ri_moves", (13, 0, 1, [], [0] * 26), [-3]),
]

many_places = [0] * 26
far_places = [0] * 25 + [-1001]

# Calls that more than one refusal would be due to.
SEVERAL = [
    # -2 and -1: sets or rows, more than most, of which there can be none.
    ("ri_parts", (4, -1, square), [-2]),
    ("ri_parts", (4, LEAST, square), [-2]),
    ("ri_parts", (4, 0, square + [1, 0]), [-2]),
    ("ri_parts", (4, -1, square + [1, 0]), [-2]),
    ("ri_steps", (4, -1, braced), [-2]),
    ("ri_steps", (4, 0, braced + [0, 2]), [-2]),
    # -2 and -3.
    ("ri_holds", (4, 1, 3, square + [4, 0]), [-2]),
    ("ri_holds", (4, 0, 1, square + [0, 1]), [-2]),
    ("ri_holds", (4, 1, 1, square), [-2]),
    ("ri_holds", (4, -1, 3, square), [-2]),
    ("ri_holds", (4, 1, GREATEST, []), [-2]),
    ("ri_steps", (4, 2, square + [0, 1]), [-2]),
    ("ri_steps", (4, 2, square + [3, 3]), [-2]),
    ("ri_rank", (13, [0, 1], far_places), [-2]),
    ("ri_rank", (13, [0, 13], many_places), [-2]),
    ("ri_rank", (13, [0, 1, 0, 1], far_places), [-2]),
    ("ri_moves", (13, 0, 1, [0, 1], far_places), [-2]),
    ("ri_moves", (13, 0, 1, [0, 13], many_places), [-2]),
    ("ri_moves", (13, 0, 13, [], many_places), [-2]),
    ("ri_moves", (13, -1, 0, [], many_places), [-2]),
    ("ri_moves", (13, 12, 12, [], many_places), [-2]),
    ("ri_moves", (13, 12, 12, [5, 5], far_places), [-2]),
    # -3 and -1: most would be too few, were the bars 2 n - 3 and all kept.
    ("ri_steps", (4, 0, square), [-3]),
    ("ri_steps", (4, 1, full), [-3]),
    ("ri_steps", (5, 0, full + [3, 4]), [-3]),
    # All three.
    ("ri_steps", (4, -1, square), [-2]),
    ("ri_steps", (4, LEAST, full), [-2]),
    ("ri_steps", (4, 0, square + [0, 1]), [-2]),
]

CALLS = ANSWERS + REFUSALS + SEVERAL


def fresh():
    """The program, read anew: nothing can have been kept in it."""
    spec = importlib.util.spec_from_file_location("fresh_frames", frames.__file__)
    program = importlib.util.module_from_spec(spec)
    spec.loader.exec_module(program)
    return program


def copied(arguments, kind):
    return [kind(argument) if isinstance(argument, list) else argument for argument in arguments]


class EveryCall(unittest.TestCase):
    def call(self, program, name, arguments):
        """What is answered, the lists being handed in as such as can't be changed."""
        handed = copied(arguments, Untouched)
        answer = getattr(program, name)(*handed)
        self.assertEqual(handed, list(arguments))
        return answer

    def check(self, program, name, arguments, expected):
        with self.subTest(name=name, arguments=arguments):
            self.assertEqual(self.call(program, name, arguments), expected)

    def test_every_function_is_called(self):
        for calls in (ANSWERS, REFUSALS):
            self.assertEqual({name for name, arguments, expected in calls}, set(ARGUMENTS))

    def test_for_the_first_time(self):
        for name, arguments, expected in CALLS:
            self.check(fresh(), name, arguments, expected)

    def test_in_turn(self):
        for name, arguments, expected in CALLS + CALLS[::-1]:
            self.check(frames, name, arguments, expected)

    def test_each_after_each_other(self):
        for first, first_arguments, first_expected in CALLS:
            for name, arguments, expected in CALLS[::3]:
                self.call(frames, name, arguments)
            self.check(frames, first, first_arguments, first_expected)
            self.check(frames, first, first_arguments, first_expected)

    def test_one_after_another_in_a_fresh_program(self):
        for first, first_arguments, first_expected in CALLS:
            program = fresh()
            self.check(program, first, first_arguments, first_expected)
            for name, arguments, expected in ANSWERS[::4] + REFUSALS[::5]:
                self.check(program, name, arguments, expected)
            self.check(program, first, first_arguments, first_expected)

    def test_the_same_lists_handed_to_all(self):
        bars = Untouched(braced)
        xy = Untouched(corners)
        for again in range(3):
            self.assertEqual(frames.ri_kept(4, bars), [5, 31, 0, 0])
            self.assertEqual(frames.ri_parts(4, 1, bars), [1, 15])
            self.assertEqual(frames.ri_holds(4, 1, 3, bars), [5, 31, 0, 0])
            self.assertEqual(frames.ri_spare(4, bars), [0, 0, 0, 0])
            self.assertEqual(frames.ri_steps(4, 2, bars)[0], 2)
            self.assertEqual(frames.ri_rank(4, bars, xy), [5])
            self.assertEqual(frames.ri_moves(4, 1, 3, bars, xy), [0])
        self.assertEqual((list(bars), list(xy)), (braced, corners))

    def test_an_answer_is_its_caller_s_own(self):
        for name, arguments, expected in CALLS:
            answer = getattr(frames, name)(*copied(arguments, list))
            answer.clear()
            self.check(frames, name, arguments, expected)

    def test_an_answer_is_none_of_the_lists_handed_in(self):
        for name, arguments, expected in CALLS:
            handed = copied(arguments, list)
            answer = getattr(frames, name)(*handed)
            answer.append(7)
            self.assertEqual(handed, list(arguments))

    def test_nothing_is_kept_at_the_file_s_top(self):
        def values():
            return {name: value for name, value in vars(frames).items() if not name.startswith("__")}

        before = values()
        shown = {name: repr(value) for name, value in before.items()}
        for name, arguments, expected in CALLS:
            getattr(frames, name)(*copied(arguments, list))
        self.assertEqual(values(), before)
        self.assertEqual({name: repr(value) for name, value in values().items()}, shown)


class Kinds(unittest.TestCase):
    def test_a_list_of_whole_numbers(self):
        for name, arguments, expected in CALLS:
            answer = getattr(frames, name)(*copied(arguments, list))
            self.assertIs(type(answer), list, name)
            for number in answer:
                self.assertIs(type(number), int, name)

    def test_a_refusal_is_its_number_alone(self):
        for name, arguments, expected in REFUSALS + SEVERAL:
            answer = getattr(frames, name)(*copied(arguments, list))
            self.assertEqual(len(answer), 1, name)
            self.assertIn(answer[0], (-3, -2, -1))

    def test_an_answer_has_no_number_below_0_and_no_mask_of_more_than_32_bits(self):
        for name, arguments, expected in ANSWERS:
            for number in getattr(frames, name)(*copied(arguments, list)):
                self.assertTrue(0 <= number <= 4294967295, name)

    def test_how_many_numbers(self):
        for name, arguments, expected in ANSWERS:
            answer = getattr(frames, name)(*copied(arguments, list))
            many = {"ri_parts": 1 + answer[0], "ri_steps": 1 + 5 * answer[0], "ri_rank": 1, "ri_moves": 1}.get(name, 4)
            self.assertEqual(len(answer), many, name)


class Interface(unittest.TestCase):
    def test_names_and_arguments(self):
        for name, arguments in ARGUMENTS.items():
            parameters = inspect.signature(getattr(frames, name)).parameters.values()
            self.assertEqual([parameter.name for parameter in parameters], arguments)
            for parameter in parameters:
                self.assertIs(parameter.default, parameter.empty)

    def test_no_other_call(self):
        self.assertEqual([name for name in sorted(vars(frames)) if name.startswith("ri_")], sorted(ARGUMENTS))

    def test_arguments_by_their_names(self):
        for name, arguments, expected in CALLS:
            named = dict(zip(ARGUMENTS[name], copied(arguments, list), strict=True))
            self.assertEqual(getattr(frames, name)(**named), expected)


class WhatIsNoFrame(unittest.TestCase):
    def refused(self, n, bars):
        xy = [0, 0] * n if 2 <= n <= 32 else []
        handed = {"n": n, "bars": bars, "most": 5, "u": 0, "v": 1, "xy": xy}
        for name, arguments in ARGUMENTS.items():
            with self.subTest(name=name, n=n, bars=bars):
                self.assertEqual(getattr(frames, name)(*[handed[key] for key in arguments]), [-2])

    def test_joints(self):
        for n in (LEAST, -33, -2, -1, 0, 1, 33, 34, 64, 255, GREATEST):
            for bars in ([], [0, 1], square, [0, 0]):
                self.refused(n, bars)

    def test_bars(self):
        for n in (2, 3, 8, 9, 12, 13, 32):
            for bars in ([0, 0], [1, 1], [n, 0], [0, n], [255, 1], [255, 255], [0, 1, 0, 1], [0, 1, 1, 0]):
                self.refused(n, bars)
                self.refused(n, [1, 0] + bars)

    def test_the_last_of_96_bars(self):
        bars = flat(all_pairs(range(32))[:96])
        for last in ([0, 1], [1, 0], [31, 31], [0, 32], [255, 0]):
            self.refused(32, bars[:-2] + last)


if __name__ == "__main__":
    unittest.main()
