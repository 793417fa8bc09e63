import unittest

from skies import (Untouched, carried_by_fractions, first_difference, fit_by_fractions, moved, paired, picture,
                   turned)
from skymatch.matched import tm_carry

WORDS = 2 ** 32
ON_ITSELF = [0, 0, 0, 0, 1, 0, 1, 0]
HALVED = [0, 0, 0, 0, 2, 0, 1, 0]
# (x, y) comes to lie at (8 - x / 2, 8 - y / 2).
HALVED_AND_BACK = [0, 0, 8, 8, 2, 0, 7, 8]
# By hand, as in the test of tm_fit: (x, y) comes to lie at (5 x / 4 - y / 8 + 5 / 2, x / 8 + 5 y / 4 - 5 / 2).
NOT_EXACT = [0, 0, 0, 0, 20, 0, 30, 0, 0, 20, 0, 20]


def told_by_fractions(ps, xy):
    fit = fit_by_fractions(ps)
    if fit is None:
        return [-4]
    answer = [0]
    for k in range(0, len(xy), 2):
        answer.extend([number % WORDS for number in carried_by_fractions(fit, xy[k], xy[k + 1])])
    return answer


class OrdinaryCarry(unittest.TestCase):
    PLACES = picture(7, 41, 1500)
    OTHERS = picture(40, 42, 1500)

    def test_moved(self):
        ps = paired(self.PLACES, moved(self.PLACES, 300, 6000))
        self.assertEqual(tm_carry(ps, self.OTHERS), [0] + moved(self.OTHERS, 300, 6000))

    def test_the_pairs_own_places_come_to_lie_on_their_partners(self):
        partners = turned(moved(self.PLACES, 3, 9), 5000)
        self.assertEqual(tm_carry(paired(self.PLACES, partners), self.PLACES), [0] + partners)

    def test_turned_by_a_quarter(self):
        ps = paired(self.PLACES, turned(self.PLACES, 2000))
        self.assertEqual(tm_carry(ps, self.OTHERS), [0] + turned(self.OTHERS, 2000))

    def test_made_twice_as_wide(self):
        ps = paired(self.PLACES, [2 * number for number in self.PLACES])
        self.assertEqual(tm_carry(ps, self.OTHERS), [0] + [2 * number for number in self.OTHERS])

    def test_moved_turned_and_made_twice_as_wide(self):
        def carry(places):
            return moved(turned([2 * number for number in places], 4000), 77, 9)

        self.assertEqual(tm_carry(paired(self.PLACES, carry(self.PLACES)), self.OTHERS), [0] + carry(self.OTHERS))

    def test_pairs_that_do_not_fit_exactly(self):
        # To (2.5, -2.5), (27.5, 0), (0, 22.5), (3.75, -2.375), (2.375, -1.25), (140, 135).
        self.assertEqual(tm_carry(NOT_EXACT, [0, 0, 20, 0, 0, 20, 1, 0, 0, 1, 120, 100]),
                         [0, 3, WORDS - 2, 28, 0, 0, 23, 4, WORDS - 2, 2, WORDS - 1, 140, 138])

    def test_many_pairs(self):
        for below in (2, 5, 60, 8192):
            for other in (2, 7, 300, 8192):
                for count in (2, 3, 4, 9, 31):
                    ps = paired(picture(count, 5 * count + below, below), picture(count, 3 * count + other, other))
                    xy = picture(12, count) + picture(12, count, 10)
                    with self.subTest(ps=ps):
                        self.assertIsNone(first_difference(tm_carry(ps, xy), told_by_fractions(ps, xy)))

    def test_one_place_as_among_many(self):
        whole = tm_carry(NOT_EXACT, self.OTHERS)
        for k in range(0, 80, 2):
            self.assertEqual(tm_carry(NOT_EXACT, self.OTHERS[k:k + 2]), [0] + whole[k + 1:k + 3])


class EdgesOfCarry(unittest.TestCase):
    def test_just_between_two_above_0(self):
        self.assertEqual(tm_carry(HALVED, [1, 1, 3, 5, 2, 4]), [0, 1, 1, 2, 3, 1, 2])
        self.assertEqual(tm_carry(HALVED_AND_BACK, [1, 3, 15, 0]), [0, 8, 7, 1, 8])

    def test_just_between_two_below_0(self):
        # To (-0.5, -1.5), (-2.5, -1).
        self.assertEqual(tm_carry(HALVED_AND_BACK, [17, 19, 21, 18]),
                         [0, 0, WORDS - 1, WORDS - 2, WORDS - 1])

    def test_not_just_between_two(self):
        # To thirds: each goes to the nearest, on both sides of 0.
        thirds = [0, 0, 2, 2, 3, 0, 1, 2]
        self.assertEqual(tm_carry(thirds, [1, 2, 5, 4, 7, 8, 10, 11]),
                         [0, 2, 1, 0, 1, 0, WORDS - 1, WORDS - 1, WORDS - 2])

    def test_words_of_numbers_below_0(self):
        moved_back = [100, 200, 0, 0, 101, 200, 1, 0]
        self.assertEqual(tm_carry(moved_back, [100, 200, 99, 199, 0, 0]),
                         [0, 0, 0, WORDS - 1, WORDS - 1, WORDS - 100, WORDS - 200])

    def test_the_farthest_places(self):
        # (x, y) comes to lie at (8191 x - 8191 y, 8191 x + 8191 y).
        widest = [0, 0, 0, 0, 1, 0, 8191, 8191]
        most = 8191 * 8191
        self.assertEqual(tm_carry(widest, [8191, 8191, 8191, 0, 0, 8191]),
                         [0, 0, 2 * most, most, most, WORDS - most, most])

    def test_places_may_be_the_same(self):
        self.assertEqual(tm_carry(ON_ITSELF, [4, 4, 4, 4]), [0, 4, 4, 4, 4])

    def test_no_places(self):
        self.assertEqual(tm_carry(ON_ITSELF, []), [0])

    def test_4096_places_are_granted(self):
        places = picture(4096, 71)
        self.assertIsNone(first_difference(tm_carry(ON_ITSELF, places), [0] + places))

    def test_32_pairs_are_granted(self):
        places = picture(32, 72, 4000)
        xy = [0, 0, 1, 2]
        self.assertEqual(tm_carry(paired(places, moved(places, 5, 6)), xy), [0, 5, 6, 6, 8])

    def test_partners_all_the_same(self):
        self.assertEqual(tm_carry([0, 0, 70, 80, 1, 0, 70, 80], [8191, 0, 5, 5]), [0, 70, 80, 70, 80])

    def test_8191_is_granted(self):
        corners = [8191, 8191, 8191, 8191, 0, 0, 0, 0]
        self.assertEqual(tm_carry(corners, [8191, 8191]), [0, 8191, 8191])


class RefusedCarry(unittest.TestCase):
    def test_no_fit(self):
        xy = [1, 2, 3, 4]
        self.assertEqual(tm_carry([], xy), [-4])
        self.assertEqual(tm_carry([5, 6, 7, 8], xy), [-4])
        self.assertEqual(tm_carry([5, 6, 7, 8, 5, 6, 7, 8], xy), [-4])
        self.assertEqual(tm_carry([5, 6, 7, 8, 5, 6, 1, 2], xy), [-4])
        self.assertEqual(tm_carry(paired([8191, 17] * 32, picture(32, 63)), xy), [-4])

    def test_no_fit_even_where_there_are_no_places(self):
        self.assertEqual(tm_carry([], []), [-4])
        self.assertEqual(tm_carry([5, 6, 7, 8], []), [-4])

    def test_33_pairs(self):
        places = picture(33, 72)
        self.assertEqual(tm_carry(paired(places, places), [1, 1]), [-2])
        self.assertEqual(tm_carry([0, 0, 0, 0] + ON_ITSELF * 19 + [0, 0, 0, 0], []), [-2])

    def test_4097_places(self):
        self.assertEqual(tm_carry(ON_ITSELF, picture(4097, 71))[:9], [-2])
        self.assertEqual(tm_carry(ON_ITSELF, [0] * 8300)[:9], [-2])

    def test_8192_in_a_pair(self):
        for k in range(12):
            ps = list(NOT_EXACT)
            ps[k] = 8192
            with self.subTest(ps=ps):
                self.assertEqual(tm_carry(ps, [1, 1]), [-3])
                self.assertEqual(tm_carry(ps, []), [-3])
                ps[k] = 8191
                self.assertEqual(tm_carry(ps, [1, 1])[0], 0)

    def test_8192_in_a_place(self):
        for k in range(4):
            xy = [0, 0, 0, 0]
            xy[k] = 8192
            self.assertEqual(tm_carry(ON_ITSELF, xy), [-3])
            xy[k] = 65535
            self.assertEqual(tm_carry(ON_ITSELF, xy), [-3])

    def test_out_of_range_goes_ahead_of_all_else(self):
        many_pairs = [7] * 132
        many_places = [0] * 8194
        self.assertEqual(tm_carry([65535] * 132, [65535] * 8300), [-2])
        self.assertEqual(tm_carry(many_pairs, []), [-2])
        self.assertEqual(tm_carry(many_pairs, [8192, 0]), [-2])
        self.assertEqual(tm_carry([], many_places), [-2])
        self.assertEqual(tm_carry([8192, 0, 0, 0], many_places), [-2])
        self.assertEqual(tm_carry(ON_ITSELF, [8192] + [0] * 8193), [-2])

    def test_too_great_goes_ahead_of_no_fit(self):
        self.assertEqual(tm_carry([], [8192, 0]), [-3])
        self.assertEqual(tm_carry([], [0, 8192]), [-3])
        self.assertEqual(tm_carry([5, 6, 7, 8], [1, 1, 1, 8192]), [-3])
        self.assertEqual(tm_carry([5, 6, 7, 8192], [1, 1]), [-3])
        self.assertEqual(tm_carry([8192, 6, 7, 8], []), [-3])


class CarryAsACall(unittest.TestCase):
    CALLS = (
        (NOT_EXACT, picture(9, 3)),
        (paired(picture(6, 1), picture(6, 2)), picture(9, 3)),
        ([], []),
        ([], [1, 2]),
        (ON_ITSELF, [8192, 0]),
        ([0] * 132, [1, 2]),
    )

    def test_what_is_handed_in_is_not_changed(self):
        for ps, xy in self.CALLS:
            pairs = Untouched(ps)
            places = Untouched(xy)
            tm_carry(pairs, places)
            self.assertEqual((list(pairs), list(places)), (ps, xy))

    def test_one_list_may_be_both(self):
        self.assertEqual(tm_carry(NOT_EXACT, NOT_EXACT), tm_carry(list(NOT_EXACT), list(NOT_EXACT)))

    def test_a_second_call_answers_the_same(self):
        for ps, xy in self.CALLS:
            first = tm_carry(ps, xy)
            kept = list(first)
            first.append(99)
            tm_carry(HALVED, [1, 1, 7, 9])
            self.assertEqual(tm_carry(ps, xy), kept)

    def test_the_answer_is_a_list_of_whole_numbers(self):
        for ps, xy in self.CALLS:
            answer = tm_carry(ps, xy)
            self.assertIs(type(answer), list)
            self.assertEqual({type(number) for number in answer}, {int})


if __name__ == "__main__":
    unittest.main()
