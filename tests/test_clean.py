import unittest

from skies import (Untouched, carried_by_fractions, first_difference, fit_by_fractions, mirrored, moved, paired,
                   picture, turned)
from skymatch.matched import tm_clean, tm_fit

SQUARE = [0, 0, 10, 0, 0, 10, 10, 10]


def square_with_one_off(right, up):
    """A square's corners on themselves, but the last one's partner, which is elsewhere by (right, up)."""
    return paired(SQUARE, SQUARE[:6] + [10 + right, 10 + up])


def without(ps, *gone):
    return sum([ps[4 * k:4 * k + 4] for k in range(len(ps) // 4) if k not in gone], [])


def cleaned_by_fractions(r, ps):
    left = [ps[k:k + 4] for k in range(0, len(ps), 4)]
    while len(left) > 2:
        fit = fit_by_fractions(sum(left, []))
        if fit is None:
            break
        worst = None
        for k, (x, y, u, v) in enumerate(left):
            to = carried_by_fractions(fit, x, y)
            off = (to[0] - u) ** 2 + (to[1] - v) ** 2
            if worst is None or off > worst[0]:
                worst = (off, k)
        if worst[0] <= r * r:
            break
        left.pop(worst[1])
    return [len(left)] + sum(left, [])


class OrdinaryClean(unittest.TestCase):
    PLACES = picture(9, 41, 3000)

    def left(self, r, ps, *gone):
        self.assertEqual(tm_clean(r, ps), [len(ps) // 4 - len(gone)] + without(ps, *gone))

    def test_pairs_that_all_fit(self):
        for partners in (self.PLACES, moved(self.PLACES, 300, 5000), turned(self.PLACES, 3000),
                         [2 * number for number in self.PLACES]):
            self.left(0, paired(self.PLACES, partners))
            self.left(50, paired(self.PLACES, partners))

    def test_one_pair_that_fits_badly(self):
        for k in range(9):
            ps = paired(self.PLACES, moved(self.PLACES, 300, 500))
            ps[4 * k + 3] += 900
            self.left(0, ps, k)
            self.left(60, ps, k)

    def test_several_pairs_that_fit_badly_one_behind_another(self):
        ps = paired(self.PLACES, turned(self.PLACES, 3000))
        ps[4 * 2 + 2] += 900
        ps[4 * 5 + 3] += 1500
        ps[4 * 6 + 3] += 400
        self.left(40, ps, 2, 5, 6)
        self.left(0, ps, 2, 5, 6)

    def test_the_first_and_the_last_go(self):
        ps = paired(self.PLACES, moved(self.PLACES, 9, 9))
        ps[2] += 2000
        ps[-1] += 1000
        self.left(3, ps, 0, 8)

    def test_the_fit_is_told_anew_each_time(self):
        # With the first fit the four are off by 0, 8, 8, 16: as soon as the last one has gone, the others are off by 0.
        self.left(2, square_with_one_off(0, 8), 3)
        self.left(0, square_with_one_off(0, 8), 3)

    def test_one_goes_for_which_it_takes_the_second_fit(self):
        # The first place stands thrice. It is carried to (4, 0), so the pairs are off by 16, 36, 4, 0: the second
        # goes. Then it is carried to (1, 0), so they're off by 1, 1, 0: by r of 0 the first goes.
        ps = [7, 7, 0, 0, 7, 7, 10, 0, 7, 7, 2, 0, 90, 7, 50, 50]
        self.left(0, ps, 0, 1)
        self.left(1, ps, 1)
        self.left(5, ps, 1)
        self.left(6, ps)

    def test_a_mirrored_square(self):
        # All four are off by 50, so the first goes. The three left are carried to (0, 5), (5, 5), (5, 10), and off by
        # 25, 50, 25: the middle one goes.
        around = [0, 0, 10, 0, 10, 10, 0, 10]
        ps = paired(around, mirrored(around, 10))
        self.left(7, ps, 0, 2)
        self.left(8, ps)

    def test_the_order_stays_as_it_was(self):
        back = moved(self.PLACES, 300, 500)
        ps = paired(self.PLACES, back)
        ps[4 * 4 + 2] += 700
        turned_about = sum([ps[k:k + 4] for k in range(32, -1, -4)], [])
        self.left(2, ps, 4)
        self.left(2, turned_about, 4)

    def test_many_pairs(self):
        for below in (3, 60, 8192):
            for other in (2, 7, 300, 8192):
                for count in (2, 3, 4, 9, 17):
                    ps = paired(picture(count, 5 * count + below, below), picture(count, 3 * count + other, other))
                    for r in (0, 1, other // 3, other // 2):
                        with self.subTest(r=r, ps=ps):
                            self.assertIsNone(first_difference(tm_clean(r, ps), cleaned_by_fractions(r, ps)))

    def test_what_is_left_is_not_off_by_more(self):
        ps = paired(picture(20, 81, 400), picture(20, 82, 400))
        for r in range(0, 400, 23):
            answer = tm_clean(r, ps)
            self.assertLessEqual(max(tm_fit(answer[1:])[7:]), r * r)
            self.assertEqual(tm_clean(r, answer[1:]), answer)


class EdgesOfClean(unittest.TestCase):
    def same(self, r, ps):
        self.assertEqual(tm_clean(r, ps), [len(ps) // 4] + ps)

    def test_no_pairs(self):
        self.assertEqual(tm_clean(0, []), [0])
        self.assertEqual(tm_clean(65535, []), [0])

    def test_one_pair(self):
        self.same(0, [0, 0, 0, 0])
        self.same(0, [5, 6, 700, 800])

    def test_two_pairs(self):
        self.same(0, [0, 0, 0, 0, 1, 0, 8191, 8191])
        self.same(0, [5, 5, 9, 9, 8000, 1, 9, 9])

    def test_two_pairs_without_a_fit(self):
        self.same(0, [5, 6, 7, 8, 5, 6, 7, 8])
        self.same(0, [5, 6, 0, 0, 5, 6, 8191, 8191])

    def test_more_pairs_without_a_fit(self):
        for count in (3, 4, 31, 32):
            self.same(0, paired([8191, 17] * count, picture(count, 63)))
            self.same(9, paired([0, 0] * count, picture(count, 64)))

    def test_three_pairs_of_which_one_goes(self):
        # The first place stands twice: it is carried to (4, 0), where neither partner is.
        self.assertEqual(tm_clean(3, [7, 7, 0, 0, 7, 7, 8, 0, 90, 7, 50, 50]), [2, 7, 7, 8, 0, 90, 7, 50, 50])
        self.assertEqual(tm_clean(0, [90, 7, 50, 50, 7, 7, 8, 0, 7, 7, 0, 0]), [2, 90, 7, 50, 50, 7, 7, 0, 0])

    def test_of_two_as_far_off_the_first_goes(self):
        self.assertEqual(tm_clean(3, [7, 7, 8, 0, 90, 7, 50, 50, 7, 7, 0, 0]), [2, 90, 7, 50, 50, 7, 7, 0, 0])
        self.assertEqual(tm_clean(3, [7, 7, 0, 0, 90, 7, 50, 50, 7, 7, 8, 0]), [2, 90, 7, 50, 50, 7, 7, 8, 0])

    def test_how_far_off_is_told_by_the_place_rounded(self):
        # (7, 7) is carried to (3.5, 0), which is (4, 0): off by 16 and 9, not alike.
        self.assertEqual(tm_clean(3, [7, 7, 7, 0, 7, 7, 0, 0, 90, 7, 50, 50]), [2, 7, 7, 7, 0, 90, 7, 50, 50])
        self.assertEqual(tm_clean(3, [7, 7, 0, 0, 7, 7, 7, 0, 90, 7, 50, 50]), [2, 7, 7, 7, 0, 90, 7, 50, 50])
        self.same(4, [7, 7, 0, 0, 7, 7, 7, 0, 90, 7, 50, 50])

    def test_a_place_may_be_carried_below_0(self):
        # To (0, 0), (12, 2), (-2, 12), (10, 14): off by 0, 8, 8, 16.
        self.same(4, square_with_one_off(0, 8))

    def test_off_by_just_r_r(self):
        self.same(4, square_with_one_off(0, 8))
        self.same(4, [7, 7, 0, 0, 7, 7, 8, 0, 90, 7, 50, 50])

    def test_off_by_one_more(self):
        # Carried to (0, 0), (13, 2), (-1, 13), (11, 14): off by 0, 13, 10, 17.
        ps = square_with_one_off(2, 8)
        self.assertEqual(tm_clean(4, ps), [3] + ps[:12])
        self.same(5, ps)
        # Carried to (4, 1): both off by 17.
        self.assertEqual(tm_clean(4, [7, 7, 0, 0, 7, 7, 8, 2, 90, 7, 50, 50]), [2, 7, 7, 8, 2, 90, 7, 50, 50])

    def test_the_last_pair_that_has_another_place_stays(self):
        # It is always carried right to its partner, so what is left never comes to be without a fit.
        for k in (0, 1, 15, 31):
            ps = paired([9, 9] * 32, picture(32, 65))
            ps[4 * k] = 10
            answer = tm_clean(0, ps)
            self.assertEqual(answer[0], 2)
            self.assertIn(ps[4 * k:4 * k + 4], (answer[1:5], answer[5:9]))
            self.assertEqual(answer, cleaned_by_fractions(0, ps))

    def test_two_places_that_stand_often(self):
        ps = paired([9, 9, 40, 50] * 6, picture(12, 66, 50))
        for r in (0, 5, 12, 30):
            self.assertEqual(tm_clean(r, ps), cleaned_by_fractions(r, ps))
        self.assertEqual(tm_clean(0, ps)[0], 2)

    def test_r_of_0(self):
        exact = paired(SQUARE, moved(SQUARE, 3, 4))
        self.same(0, exact)
        # Off by 0, 1, 1, 2 as soon as the last corner's partner lies elsewhere by (2, 2).
        ps = square_with_one_off(2, 2)
        self.assertEqual(tm_clean(0, ps), [3] + ps[:12])

    def test_r_of_65535(self):
        self.same(65535, paired(picture(32, 61), picture(32, 62)))
        self.same(65535, [0, 0, 0, 0, 0, 0, 8191, 8191, 8191, 8191, 4096, 4096])

    def test_r_of_a_middle_size(self):
        # Two pairs are carried to the middle of far corners, so off by 2 * 4096 ^ 2 and 2 * 4095 ^ 2.
        ps = [0, 0, 0, 0, 0, 0, 8191, 8191, 8191, 8191, 4096, 4096]
        self.assertEqual(tm_clean(5792, ps), [2] + ps[4:])
        self.same(5793, ps)

    def test_32_pairs_are_granted(self):
        ps = paired(picture(32, 61), picture(32, 62))
        for r in (0, 2000, 4000):
            self.assertIsNone(first_difference(tm_clean(r, ps), cleaned_by_fractions(r, ps)))
        self.assertEqual(tm_clean(0, ps)[0], 2)

    def test_8191_is_granted(self):
        self.same(0, [8191, 8191, 8191, 8191, 0, 0, 0, 0])
        self.same(0, [8191, 8191, 8191, 8191])


class RefusedClean(unittest.TestCase):
    def test_r_of_65536(self):
        for r in (65536, 65537, 4294967295):
            self.assertEqual(tm_clean(r, square_with_one_off(0, 8)), [-2])
            self.assertEqual(tm_clean(r, []), [-2])

    def test_33_pairs(self):
        self.assertEqual(tm_clean(5, paired(picture(33, 61), picture(33, 62)))[:9], [-2])
        self.assertEqual(tm_clean(65535, [7] * 132)[:9], [-2])
        self.assertEqual(tm_clean(0, [7] * 160)[:9], [-2])

    def test_8192(self):
        for k in range(16):
            ps = square_with_one_off(0, 8)
            ps[k] = 8192
            with self.subTest(ps=ps):
                self.assertEqual(tm_clean(5, ps), [-3])
                ps[k] = 65535
                self.assertEqual(tm_clean(65535, ps), [-3])
                ps[k] = 8191
                self.assertGreater(tm_clean(5, ps)[0], 0)

    def test_8192_where_there_is_no_fit(self):
        for k in range(4):
            ps = [0, 0, 0, 0]
            ps[k] = 8192
            self.assertEqual(tm_clean(0, ps), [-3])
        self.assertEqual(tm_clean(0, [8192, 8192, 0, 0, 8192, 8192, 1, 1]), [-3])

    def test_out_of_range_goes_ahead_of_all_else(self):
        self.assertEqual(tm_clean(65536, [8192, 0, 0, 0]), [-2])
        self.assertEqual(tm_clean(0, [65535] * 132), [-2])
        self.assertEqual(tm_clean(0, [8192] + [0] * 131), [-2])
        self.assertEqual(tm_clean(65536, [65535] * 132), [-2])


class CleanAsACall(unittest.TestCase):
    CALLS = (
        (2, square_with_one_off(0, 8)),
        (0, paired(picture(9, 1), picture(9, 2))),
        (9000, paired(picture(9, 1), picture(9, 2))),
        (5, []),
        (5, [1, 2, 3, 4]),
        (5, [1, 2, 3, 4] * 5),
        (5, [1, 2, 3, 8192]),
        (65536, [1, 2, 3, 4]),
    )

    def test_what_is_handed_in_is_not_changed(self):
        for r, ps in self.CALLS:
            handed = Untouched(ps)
            tm_clean(r, handed)
            self.assertEqual(list(handed), ps)

    def test_the_answer_is_a_list_of_its_own(self):
        for r, ps in self.CALLS:
            kept = list(ps)
            answer = tm_clean(r, ps)
            answer[0] = 77
            answer.append(99)
            self.assertEqual(ps, kept)

    def test_a_second_call_answers_the_same(self):
        for r, ps in self.CALLS:
            first = tm_clean(r, ps)
            kept = list(first)
            first.append(99)
            tm_clean(0, square_with_one_off(5, 5))
            self.assertEqual(tm_clean(r, ps), kept)

    def test_the_answer_is_a_list_of_whole_numbers(self):
        for r, ps in self.CALLS:
            answer = tm_clean(r, ps)
            self.assertIs(type(answer), list)
            self.assertEqual({type(number) for number in answer}, {int})


if __name__ == "__main__":
    unittest.main()
