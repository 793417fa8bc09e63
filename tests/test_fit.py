import unittest

from skies import (Untouched, carried_by_fractions, first_difference, fit_by_fractions, mirrored, moved, nearest,
                   paired, picture, turned)
from skymatch.matched import tm_fit

WORDS = 2 ** 32

# By hand: n 3, the sums 20, 20, 30, 20, g 1600, a 2000, b 200, c 12000, d -12000. So n a by n g is 5 / 4, n b by
# n g is 1 / 8, c and d by n g are 5 / 2 and -5 / 2; (0, 0) is carried to (2.5, -2.5), (20, 0) to (27.5, 0) and
# (0, 20) to (0, 22.5).
BY_HAND = [0, 0, 0, 0,
           20, 0, 30, 0,
           0, 20, 0, 20]


def told_by_fractions(ps):
    fit = fit_by_fractions(ps)
    if fit is None:
        return [-4]
    p, q, r, t = fit
    answer = [0, 4] + [nearest(number) % WORDS for number in (16384 * p, 16384 * q, r, t)]
    answer.append(len(ps) // 4)
    for k in range(0, len(ps), 4):
        x, y, u, v = ps[k:k + 4]
        to = carried_by_fractions(fit, x, y)
        answer.append((to[0] - u) ** 2 + (to[1] - v) ** 2)
    return answer


class OrdinaryFit(unittest.TestCase):
    PLACES = picture(7, 41, 1500)
    ALL_ON_THE_SPOT = [7] + [0] * 7

    def words_and_off(self, partners, words):
        answer = tm_fit(paired(self.PLACES, partners))
        self.assertEqual(answer, [0, 4] + words + self.ALL_ON_THE_SPOT)

    def test_a_picture_on_itself(self):
        self.words_and_off(self.PLACES, [16384, 0, 0, 0])

    def test_a_picture_that_is_only_moved(self):
        self.words_and_off(moved(self.PLACES, 300, 6000), [16384, 0, 300, 6000])

    def test_a_picture_moved_towards_0(self):
        # The move is by -300 and -5, told as words.
        answer = tm_fit(paired(moved(self.PLACES, 300, 5), self.PLACES))
        self.assertEqual(answer, [0, 4, 16384, 0, WORDS - 300, WORDS - 5] + self.ALL_ON_THE_SPOT)

    def test_turned_by_a_quarter(self):
        self.words_and_off(turned(self.PLACES, 2000), [0, 16384, 2000, 0])

    def test_turned_by_a_half_and_by_three_quarters(self):
        half = turned(turned(self.PLACES, 2000), 3000)
        self.words_and_off(half, [WORDS - 16384, 0, 3000, 2000])
        self.words_and_off(turned(half, 4000), [0, WORDS - 16384, 2000, 3000])

    def test_made_twice_as_wide(self):
        self.words_and_off([2 * number for number in self.PLACES], [32768, 0, 0, 0])

    def test_made_half_as_wide(self):
        even = [2 * number for number in self.PLACES]
        answer = tm_fit(paired(even, self.PLACES))
        self.assertEqual(answer, [0, 4, 8192, 0, 0, 0] + self.ALL_ON_THE_SPOT)

    def test_moved_turned_and_made_twice_as_wide(self):
        wide = [2 * number for number in self.PLACES]
        self.words_and_off(moved(turned(wide, 4000), 77, 9), [0, 32768, 4077, 9])

    def test_turned_by_no_quarter(self):
        # (x, y) comes to lie at (3 x - y + 1500, x + 3 y + 8).
        partners = []
        for k in range(0, 14, 2):
            x, y = self.PLACES[k:k + 2]
            partners.extend([3 * x - y + 1500, x + 3 * y + 8])
        self.words_and_off(partners, [49152, 16384, 1500, 8])

    def test_pairs_that_do_not_fit_exactly(self):
        self.assertEqual(tm_fit(BY_HAND), [0, 4, 20480, 2048, 3, WORDS - 2, 3, 13, 4, 9])

    def test_one_pair_that_is_far_off_draws_the_fit_a_little(self):
        # By hand: n 4, the sums 20, 20, 20, 28, g 800, a 960, b 160, c 0, d 0. So 16384 times 1.2 and 0.2 are
        # told, and the places are carried to (0, 0), (12, 2), (-2, 12), (10, 14).
        self.assertEqual(tm_fit([0, 0, 0, 0, 10, 0, 10, 0, 0, 10, 0, 10, 10, 10, 10, 18]),
                         [0, 4, 19661, 3277, 0, 0, 4, 0, 8, 8, 16])

    def test_a_mirrored_picture_is_far_off(self):
        # Of a square and its mirror no turn is better than another: all are carried to the middle.
        square = [0, 0, 10, 0, 10, 10, 0, 10]
        self.assertEqual(tm_fit(paired(square, mirrored(square, 10))), [0, 4, 0, 0, 5, 5, 4, 50, 50, 50, 50])

    def test_many_pairs(self):
        for below in (2, 5, 60, 8192):
            for other in (2, 7, 300, 8192):
                for count in (2, 3, 4, 9, 31):
                    ps = paired(picture(count, 5 * count + below, below), picture(count, 3 * count + other, other))
                    with self.subTest(ps=ps):
                        self.assertIsNone(first_difference(tm_fit(ps), told_by_fractions(ps)))

    def test_the_order_of_pairs_changes_only_the_order_of_what_is_told(self):
        places = picture(6, 51)
        ps = paired(places, picture(6, 52))
        back = []
        for k in range(20, -1, -4):
            back.extend(ps[k:k + 4])
        one = tm_fit(ps)
        other = tm_fit(back)
        self.assertEqual(other[:7], one[:7])
        self.assertEqual(other[7:], one[:6:-1])


class EdgesOfFit(unittest.TestCase):
    def test_quotients_just_between_two_for_the_turn(self):
        # By hand: g is 8 * 4096 ^ 2, a is -12288, so 16384 n a by n g is -1.5, and c by n g is 0.375.
        line = [[0, 0]] * 8 + [[4096, 0]]
        threes = [[3, 0]] + [[0, 0]] * 8
        below_0 = sum([place + partner for place, partner in zip(line, threes)], [])
        self.assertEqual(tm_fit(below_0), [0, 4, WORDS - 1, 0, 0, 0, 9, 9] + [0] * 8)
        # With 3 less each partner's u, the signs turn about: 1.5, and 3 - 0.375.
        threes = [[0, 0]] + [[3, 0]] * 8
        above_0 = sum([place + partner for place, partner in zip(line, threes)], [])
        self.assertEqual(tm_fit(above_0), [0, 4, 2, 0, 3, 0, 9, 9] + [0] * 8)

    def test_quotients_just_between_two_for_the_other_turn(self):
        line = [[0, 0]] * 8 + [[4096, 0]]
        threes = [[0, 3]] + [[0, 0]] * 8
        below_0 = sum([place + partner for place, partner in zip(line, threes)], [])
        self.assertEqual(tm_fit(below_0), [0, 4, 0, WORDS - 1, 0, 0, 9, 9] + [0] * 8)
        threes = [[0, 0]] + [[0, 3]] * 8
        above_0 = sum([place + partner for place, partner in zip(line, threes)], [])
        self.assertEqual(tm_fit(above_0), [0, 4, 0, 2, 0, 3, 9, 9] + [0] * 8)

    def test_quotients_just_between_two_for_the_move_and_for_how_far_off(self):
        # Moved by 2.5 and -2.5: told as 3 and -2. The places are carried to (3, -2), (28, 0), (0, 23).
        self.assertEqual(tm_fit(BY_HAND)[4:], [3, WORDS - 2, 3, 13, 4, 9])
        # The same with x for y: moved by -2.5 and 2.5.
        crossed = [0, 0, 0, 0, 0, 20, 0, 30, 20, 0, 20, 0]
        self.assertEqual(tm_fit(crossed), [0, 4, 20480, WORDS - 2048, WORDS - 2, 3, 3, 13, 4, 9])

    def test_minus_a_half_is_0(self):
        # (x, y) comes to lie at (x - 1) / 2, y / 2: c by n g is -0.5.
        self.assertEqual(tm_fit([1, 0, 0, 0, 3, 0, 1, 0]), [0, 4, 8192, 0, 0, 0, 2, 0, 0])
        # And at (x - 3) / 2: -1.5.
        self.assertEqual(tm_fit([3, 0, 0, 0, 5, 0, 1, 0]), [0, 4, 8192, 0, WORDS - 1, 0, 2, 0, 0])

    def test_partners_all_the_same_have_a_fit(self):
        self.assertEqual(tm_fit([0, 0, 70, 80, 1, 0, 70, 80]), [0, 4, 0, 0, 70, 80, 2, 0, 0])

    def test_two_pairs_that_differ_in_one_number_alone(self):
        self.assertEqual(tm_fit([5, 5, 0, 0, 5, 6, 0, 1]), [0, 4, 16384, 0, WORDS - 5, WORDS - 5, 2, 0, 0])
        self.assertEqual(tm_fit([5, 5, 0, 0, 6, 5, 0, 1]), [0, 4, 0, 16384, 5, WORDS - 5, 2, 0, 0])

    def test_the_widest_fit(self):
        # (x, y) comes to lie at (8191 x - 8191 y, 8191 x + 8191 y).
        self.assertEqual(tm_fit([0, 0, 0, 0, 1, 0, 8191, 8191]),
                         [0, 4, 16384 * 8191, 16384 * 8191, 0, 0, 2, 0, 0])
        # From the far corner, and turned by a half.
        self.assertEqual(tm_fit([8191, 8191, 0, 0, 8190, 8191, 8191, 8191]),
                         [0, 4, WORDS - 16384 * 8191, WORDS - 16384 * 8191, 0, 2 * 8191 * 8191, 2, 0, 0])

    def test_pairs_as_far_off_as_can_be(self):
        # Two pairs lie on one another and have the far corners as partners, so both are carried to the middle.
        ps = [0, 0, 0, 0, 0, 0, 8191, 8191, 8191, 8191, 4096, 4096]
        self.assertEqual(tm_fit(ps), told_by_fractions(ps))
        self.assertEqual(tm_fit(ps)[7:], [2 * 4096 ** 2, 2 * 4095 ** 2, 0])

    def test_32_pairs_are_granted(self):
        ps = paired(picture(32, 61), picture(32, 62))
        answer = tm_fit(ps)
        self.assertEqual(answer[6], 32)
        self.assertIsNone(first_difference(answer, told_by_fractions(ps)))
        self.assertEqual(len(answer), 39)

    def test_31_pairs_on_one_place_and_one_beside_it(self):
        ps = [9, 9, 4, 4] * 31 + [9, 10, 4, 5]
        self.assertEqual(tm_fit(ps), [0, 4, 16384, 0, WORDS - 5, WORDS - 5, 32] + [0] * 32)

    def test_8191_is_granted(self):
        self.assertEqual(tm_fit([8191, 8191, 8191, 8191, 0, 0, 0, 0]), [0, 4, 16384, 0, 0, 0, 2, 0, 0])


class RefusedFit(unittest.TestCase):
    def test_no_pairs(self):
        self.assertEqual(tm_fit([]), [-4])

    def test_one_pair(self):
        self.assertEqual(tm_fit([0, 0, 0, 0]), [-4])
        self.assertEqual(tm_fit([5, 6, 7, 8]), [-4])

    def test_two_pairs_with_the_same_place(self):
        self.assertEqual(tm_fit([5, 6, 7, 8, 5, 6, 7, 8]), [-4])
        self.assertEqual(tm_fit([5, 6, 7, 8, 5, 6, 1, 2]), [-4])

    def test_all_pairs_with_the_same_place(self):
        partners = picture(32, 63)
        self.assertEqual(tm_fit(paired([8191, 17] * 32, partners)), [-4])
        self.assertEqual(tm_fit(paired([1, 1] * 3, partners[:6])), [-4])

    def test_33_pairs(self):
        self.assertEqual(tm_fit(paired(picture(33, 61), picture(33, 62)))[:9], [-2])
        self.assertEqual(tm_fit(paired(picture(40, 61), picture(40, 62)))[:9], [-2])

    def test_8192(self):
        for k in range(12):
            ps = list(BY_HAND)
            ps[k] = 8192
            with self.subTest(ps=ps):
                self.assertEqual(tm_fit(ps), [-3])
                ps[k] = 65535
                self.assertEqual(tm_fit(ps), [-3])
                ps[k] = 8191
                self.assertEqual(tm_fit(ps)[0], 0)

    def test_too_many_goes_ahead_of_all_else(self):
        self.assertEqual(tm_fit([65535] * 132), [-2])
        self.assertEqual(tm_fit([8192] + [0] * 131), [-2])
        self.assertEqual(tm_fit([7] * 132), [-2])

    def test_too_great_goes_ahead_of_no_fit(self):
        for k in range(4):
            ps = [0, 0, 0, 0]
            ps[k] = 8192
            self.assertEqual(tm_fit(ps), [-3])
        self.assertEqual(tm_fit([8192, 8192, 0, 0, 8192, 8192, 1, 1]), [-3])


class FitAsACall(unittest.TestCase):
    CALLS = (
        BY_HAND,
        paired(picture(6, 1), picture(6, 2)),
        [],
        [1, 2, 3, 4],
        [1, 2, 3, 8192],
        [0] * 132,
    )

    def test_what_is_handed_in_is_not_changed(self):
        for ps in self.CALLS:
            handed = Untouched(ps)
            tm_fit(handed)
            self.assertEqual(list(handed), ps)

    def test_a_second_call_answers_the_same(self):
        for ps in self.CALLS:
            first = tm_fit(ps)
            kept = list(first)
            first.append(99)
            tm_fit([0, 0, 5, 5, 1, 1, 9, 9])
            self.assertEqual(tm_fit(ps), kept)

    def test_the_answer_is_a_list_of_whole_numbers(self):
        for ps in self.CALLS:
            answer = tm_fit(ps)
            self.assertIs(type(answer), list)
            self.assertEqual({type(number) for number in answer}, {int})


if __name__ == "__main__":
    unittest.main()
