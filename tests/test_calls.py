"""What the document promises over all calls, and over the calls one behind another."""
import inspect
import io
import subprocess
import sys
import unittest
from contextlib import redirect_stderr, redirect_stdout
from fractions import Fraction
from pathlib import Path

from skies import Untouched, first_difference, fit_by_fractions, moved, paired, picture, turned
from skymatch import matched

LITTLE = Fraction(1, 1000000)
ROOT = Path(__file__).resolve().parent.parent

# The names, and what is handed in, as the interface tells them.
INTERFACE = {
    "tm_triangles": ["s"],
    "tm_votes": ["e", "s", "t"],
    "tm_choose": ["n", "least", "l"],
    "tm_match": ["e", "least", "s", "t"],
    "tm_fit": ["ps"],
    "tm_carry": ["ps", "xy"],
    "tm_clean": ["r", "ps"],
    "tm_grow": ["r", "ps", "s", "t"],
    "tm_far": ["p", "q"],
}

S = picture(6, 1, 3000)
T = turned(moved(S, 40, 700), 6000)
PS = paired(S, T)
BAD = PS + [100, 100, 5000, 17]
OFF = [8192, 0]
ONE = [5, 6, 7, 8]

# How many numbers stand behind the first one, told by that one and by what was handed in.
LENGTHS = {
    "tm_triangles": lambda first, given: 6 * first,
    "tm_votes": lambda first, given: len(given[1]) // 2 * (len(given[2]) // 2),
    "tm_choose": lambda first, given: 2 * first,
    "tm_match": lambda first, given: 2 * first,
    "tm_fit": lambda first, given: 6 + len(given[0]) // 4,
    "tm_carry": lambda first, given: len(given[1]),
    "tm_clean": lambda first, given: 4 * first,
    "tm_grow": lambda first, given: 2 * first,
    "tm_far": lambda first, given: len(given[0]) // 2,
}
ANSWER_0 = ("tm_votes", "tm_fit", "tm_carry", "tm_far")

ANSWERED = (
    ("tm_triangles", S),
    ("tm_triangles", []),
    ("tm_votes", 50, S, T),
    ("tm_votes", 50, S, []),
    ("tm_choose", 3, 1, [0, 5, 2, 7, 7, 1]),
    ("tm_choose", 3, 9, [0, 5, 2, 7, 7, 1]),
    ("tm_match", 50, 1, S, T),
    ("tm_match", 50, 1, [], T),
    ("tm_fit", PS),
    ("tm_fit", BAD),
    ("tm_carry", BAD, S),
    ("tm_carry", PS, []),
    ("tm_clean", 3, PS),
    ("tm_clean", 3, BAD),
    ("tm_clean", 3, ONE),
    ("tm_clean", 3, []),
    ("tm_grow", 30, PS, S, T),
    ("tm_grow", 9000, BAD, T, S),
    ("tm_grow", 30, PS, [], T),
    ("tm_far", S, T),
    ("tm_far", [65535, 65535], [0, 0]),
    ("tm_far", [], []),
)

# In each row the refusal that comes first, then calls for which it holds, alone or with others.
REFUSED = (
    (-2, ("tm_triangles", [0] * 50)),
    (-2, ("tm_triangles", [8192] * 50)),
    (-3, ("tm_triangles", OFF)),
    (-2, ("tm_votes", 65537, S, T)),
    (-2, ("tm_votes", 65537, OFF, OFF)),
    (-2, ("tm_votes", 0, [0] * 50, OFF)),
    (-2, ("tm_votes", 0, OFF, [0] * 50)),
    (-3, ("tm_votes", 0, OFF, T)),
    (-3, ("tm_votes", 0, S, OFF)),
    (-2, ("tm_choose", 0, 0, [])),
    (-2, ("tm_choose", 1, 0, [])),
    (-2, ("tm_choose", 65, 0, [1] * 65)),
    (-2, ("tm_choose", 1, 0, [1] * 65)),
    (-2, ("tm_match", 65537, 0, S, T)),
    (-2, ("tm_match", 65537, 0, OFF, OFF)),
    (-2, ("tm_match", 0, 0, [0] * 50, OFF)),
    (-2, ("tm_match", 0, 0, OFF, [0] * 50)),
    (-3, ("tm_match", 0, 0, OFF, T)),
    (-3, ("tm_match", 0, 0, S, OFF)),
    (-2, ("tm_fit", [0] * 132)),
    (-2, ("tm_fit", [8192] * 132)),
    (-3, ("tm_fit", OFF + [0, 0])),
    (-4, ("tm_fit", ONE)),
    (-4, ("tm_fit", [])),
    (-2, ("tm_carry", [0] * 132, S)),
    (-2, ("tm_carry", [], [8192] * 8194)),
    (-3, ("tm_carry", [], OFF)),
    (-3, ("tm_carry", OFF + OFF, S)),
    (-4, ("tm_carry", [], S)),
    (-2, ("tm_clean", 65536, PS)),
    (-2, ("tm_clean", 65536, OFF + OFF)),
    (-2, ("tm_clean", 0, [8192] * 132)),
    (-3, ("tm_clean", 0, OFF + OFF)),
    (-2, ("tm_grow", 65536, [], OFF, OFF)),
    (-2, ("tm_grow", 0, [0] * 132, OFF, OFF)),
    (-2, ("tm_grow", 0, [], [0] * 130, OFF)),
    (-2, ("tm_grow", 0, [], OFF, [0] * 130)),
    (-3, ("tm_grow", 0, [], OFF, T)),
    (-3, ("tm_grow", 0, [], S, OFF)),
    (-3, ("tm_grow", 0, OFF + OFF, S, T)),
    (-4, ("tm_grow", 0, [], S, T)),
    (-4, ("tm_grow", 0, ONE, [], [])),
    (-2, ("tm_far", [0] * 8194, [0] * 8194)),
)

ALL_CALLS = ANSWERED + tuple(call for refusal, call in REFUSED)


def answer_of(call):
    return getattr(matched, call[0])(*call[1:])


def copied(call):
    return tuple(list(part) if isinstance(part, list) else part for part in call)


class TheInterface(unittest.TestCase):
    def test_names_and_arguments(self):
        for name, arguments in INTERFACE.items():
            signature = inspect.signature(getattr(matched, name))
            self.assertEqual(list(signature.parameters), arguments)
        calls = [name for name in vars(matched) if name.startswith("tm_")]
        self.assertEqual(sorted(calls), sorted(INTERFACE))

    def test_every_call_is_tried_here(self):
        self.assertEqual({call[0] for call in ANSWERED}, set(INTERFACE))
        self.assertEqual({call[0] for refusal, call in REFUSED}, set(INTERFACE))

    def test_counts(self):
        for call in ANSWERED:
            with self.subTest(call=call):
                answer = answer_of(call)
                self.assertEqual(len(answer) - 1, LENGTHS[call[0]](answer[0], call[1:]))
                self.assertGreaterEqual(min(answer), 0)
                if call[0] in ANSWER_0:
                    self.assertEqual(answer[0], 0)

    def test_words_are_below_2_to_the_32(self):
        for call in ANSWERED:
            if call[0] in ("tm_fit", "tm_carry"):
                self.assertLess(max(answer_of(call)), 2 ** 32)

    def test_fit_tells_the_counts_of_its_two_lists(self):
        answer = answer_of(("tm_fit", BAD))
        self.assertEqual((answer[0], answer[1], answer[6]), (0, 4, 7))

    def test_a_refusal_stands_alone_and_what_is_told_first_comes_first(self):
        for refusal, call in REFUSED:
            with self.subTest(call=call[0], refusal=refusal):
                self.assertEqual(answer_of(call)[:9], [refusal])


class EveryCall(unittest.TestCase):
    def test_the_answer_is_a_list_of_whole_numbers(self):
        for call in ALL_CALLS:
            answer = answer_of(call)
            self.assertIs(type(answer), list)
            self.assertEqual({type(number) for number in answer}, {int})

    def test_the_answer_is_a_new_list(self):
        for call in ALL_CALLS:
            answer = answer_of(call)
            for part in call:
                self.assertIsNot(answer, part)
            self.assertIsNot(answer, answer_of(call))

    def test_what_is_handed_in_is_not_changed(self):
        for call in ALL_CALLS:
            handed = tuple(Untouched(part) if isinstance(part, list) else part for part in call)
            answer_of(handed)
            for before, after in zip(call[1:], handed[1:]):
                if isinstance(before, list):
                    self.assertIsNone(first_difference(list(after), before))

    def test_each_is_as_if_called_for_the_first_time(self):
        names = {name: repr(value) for name, value in vars(matched).items() if not name.startswith("__")}
        first = [answer_of(call) for call in ALL_CALLS]
        kept = [list(answer) for answer in first]
        for answer in first:
            answer.extend([77, 77])
        for k in reversed(range(len(ALL_CALLS))):
            self.assertIsNone(first_difference(answer_of(copied(ALL_CALLS[k])), kept[k]))
        self.assertEqual({name: repr(value) for name, value in vars(matched).items() if not name.startswith("__")},
                         names)

    def test_nothing_is_printed(self):
        told = io.StringIO()
        with redirect_stdout(told), redirect_stderr(told):
            for call in ALL_CALLS:
                answer_of(call)
        self.assertEqual(told.getvalue(), "")

    def test_nothing_is_imported_or_printed_on_the_way_in(self):
        ask = ("import sys; before = set(sys.modules); import skymatch.matched; "
               "sys.stdout.write(' '.join(sorted(set(sys.modules) - before)))")
        run = subprocess.run([sys.executable, "-c", ask], cwd=ROOT, capture_output=True, text=True, check=True)
        self.assertEqual((run.stdout, run.stderr), ("skymatch skymatch.matched", ""))


class OneBehindAnother(unittest.TestCase):
    def test_a_picture_carried_by_whole_moves_is_found_again(self):
        stars = picture(64, 31, 3000)
        for again in (moved(stars, 300, 4000), turned(moved(stars, 40, 700), 6000), turned(turned(stars, 3000), 3000)):
            chosen = answer_of(("tm_match", 0, 2, stars[:24], again[:24]))
            self.assertEqual(chosen[0], 12)
            ps = []
            for i, j in zip(chosen[1::2], chosen[2::2]):
                ps.extend(stars[2 * i:2 * i + 2] + again[2 * j:2 * j + 2])
            self.assertEqual(answer_of(("tm_clean", 0, ps)), [12] + ps)
            self.assertEqual(answer_of(("tm_fit", ps))[7:], [0] * 12)
            self.assertEqual(answer_of(("tm_carry", ps, stars)), [0] + again)
            self.assertEqual(answer_of(("tm_grow", 0, ps, stars, again)), [64] + sorted(list(range(64)) * 2))
            self.assertEqual(answer_of(("tm_far", again, answer_of(("tm_carry", ps, stars))[1:])), [0] * 65)

    def test_wrong_pairs_are_cleaned_away_and_grown_right(self):
        stars = picture(30, 32, 3000)
        again = turned(moved(stars, 40, 700), 6000)
        ps = paired(stars[:16], again[:16])
        wrong = [100, 100, 5000, 17, 2900, 50, 30, 30]
        cleaned = answer_of(("tm_clean", 5, wrong[:4] + ps + wrong[4:]))
        self.assertEqual(cleaned, [8] + ps)
        self.assertEqual(answer_of(("tm_grow", 0, cleaned[1:], stars, again)), [30] + sorted(list(range(30)) * 2))

    def test_how_far_off_is_how_far_the_place_carried_is(self):
        # All lie so far from 0 that nothing is carried below it, where a word would have 2^32 added.
        ps = paired(moved(picture(9, 33, 500), 2000, 2000), moved(picture(9, 34, 500), 3000, 3000))
        places = sum([ps[k:k + 2] for k in range(0, 36, 4)], [])
        partners = sum([ps[k + 2:k + 4] for k in range(0, 36, 4)], [])
        to = answer_of(("tm_carry", ps, places))[1:]
        self.assertEqual(answer_of(("tm_far", to, partners))[1:], answer_of(("tm_fit", ps))[7:])

    def test_no_other_way_has_lesser_squares(self):
        for seed in range(5):
            ps = paired(picture(7, seed, 90), picture(7, seed + 50, 90))
            fit = fit_by_fractions(ps)
            least = squares(fit, ps)
            for k in range(4):
                for step in (-LITTLE, LITTLE):
                    other = list(fit)
                    other[k] += step
                    self.assertGreater(squares(other, ps), least)
            # And what is told is that way, rounded.
            told = answer_of(("tm_fit", ps))[2:6]
            for number, scale, exact in zip(told, (16384, 16384, 1, 1), fit):
                signed = number - 2 ** 32 if number >= 2 ** 31 else number
                self.assertLessEqual(2 * abs(signed - scale * exact), 1)


def squares(fit, ps):
    p, q, r, t = fit
    return sum((p * x - q * y + r - u) ** 2 + (q * x + p * y + t - v) ** 2
               for x, y, u, v in (ps[k:k + 4] for k in range(0, len(ps), 4)))


if __name__ == "__main__":
    unittest.main()
