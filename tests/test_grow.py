import unittest

from skies import (Untouched, carried_by_fractions, first_difference, fit_by_fractions, moved, paired, picture,
                   turned)
from skymatch.matched import tm_grow

ON_ITSELF = [0, 0, 0, 0, 1, 0, 1, 0]
HALVED = [0, 0, 0, 0, 2, 0, 1, 0]
# (x, y) comes to lie at (8 - x / 2, 8 - y / 2).
HALVED_AND_BACK = [0, 0, 8, 8, 2, 0, 7, 8]
# (x, y) comes to lie at (x - 100, y - 200).
MOVED_BACK = [100, 200, 0, 0, 101, 200, 1, 0]
FAR_REACH = 65535


def is_nearest(far, k):
    """Is the one at k the least of far, and none ahead of it as little?"""
    return all(far[k] < other for other in far[:k]) and all(far[k] <= other for other in far[k:])


def grown_by_words(r, ps, s, t):
    """The pairs told by going through all stars of both, with the fit of fractions."""
    fit = fit_by_fractions(ps)
    to = [carried_by_fractions(fit, s[k], s[k + 1]) for k in range(0, len(s), 2)]
    at = [(t[k], t[k + 1]) for k in range(0, len(t), 2)]
    rows = [[(x - u) ** 2 + (y - v) ** 2 for u, v in at] for x, y in to]
    pairs = [(i, j) for i in range(len(to)) for j in range(len(at))
             if is_nearest(rows[i], j) and is_nearest([row[j] for row in rows], i) and rows[i][j] <= r * r]
    return [len(pairs)] + [number for pair in pairs for number in pair]


def each_with_its_own(count):
    return [count] + sorted(list(range(count)) * 2)


class OrdinaryGrow(unittest.TestCase):
    PLACES = picture(7, 41, 1500)
    STARS = picture(30, 42, 1500)

    def test_a_picture_on_itself(self):
        self.assertEqual(tm_grow(0, ON_ITSELF, self.STARS, self.STARS), each_with_its_own(30))

    def test_moved_turned_and_made_twice_as_wide(self):
        def carry(places):
            return moved(turned([2 * number for number in places], 4000), 77, 9)

        ps = paired(self.PLACES, carry(self.PLACES))
        self.assertEqual(tm_grow(0, ps, self.STARS, carry(self.STARS)), each_with_its_own(30))
        self.assertEqual(tm_grow(40, ps, self.STARS, carry(self.STARS)), each_with_its_own(30))
        # The fit goes from the one picture to the other one, not back.
        self.assertEqual(tm_grow(0, ps, carry(self.STARS), self.STARS), [0])

    def test_some_stars_are_paired_and_some_are_not(self):
        s = [100, 100, 500, 500, 900, 100, 40, 800]
        t = [905, 103, 2000, 2000, 101, 99, 300, 300, 500, 510]
        self.assertEqual(tm_grow(10, ON_ITSELF, s, t), [3, 0, 2, 1, 4, 2, 0])
        self.assertEqual(tm_grow(9, ON_ITSELF, s, t), [2, 0, 2, 2, 0])
        self.assertEqual(tm_grow(5, ON_ITSELF, s, t), [1, 0, 2])
        self.assertEqual(tm_grow(1, ON_ITSELF, s, t), [0])

    def test_more_stars_in_the_one_than_in_the_other(self):
        self.assertEqual(tm_grow(2, ON_ITSELF, [50, 50, 10, 10, 70, 70, 30, 30], [70, 72, 11, 11]), [2, 1, 1, 2, 0])
        self.assertEqual(tm_grow(2, ON_ITSELF, [70, 72, 11, 11], [50, 50, 10, 10, 70, 70, 30, 30]), [2, 0, 2, 1, 1])

    def test_rising_by_the_first(self):
        back = [number for k in range(58, -1, -2) for number in self.STARS[k:k + 2]]
        expected = [30]
        for k in range(30):
            expected.extend([k, 29 - k])
        self.assertEqual(tm_grow(0, ON_ITSELF, self.STARS, back), expected)

    def test_the_pairs_serve_the_fit_alone(self):
        # Neither of the pairs' places is among the stars, and which stars come first doesn't matter.
        ps = [10, 10, 15, 17, 90, 10, 95, 17]
        self.assertEqual(tm_grow(0, ps, [500, 600, 50, 60], [1, 1, 55, 67, 505, 607]), [2, 0, 2, 1, 1])

    def test_pairs_that_do_not_fit_exactly(self):
        # By hand, as in the test of tm_fit: (0, 0) is carried to (2.5, -2.5), (20, 0) to (27.5, 0), (120, 100) to
        # (140, 137.5); so to (3, -2), (28, 0), (140, 138).
        ps = [0, 0, 0, 0, 20, 0, 30, 0, 0, 20, 0, 20]
        stars = [0, 0, 20, 0, 120, 100]
        self.assertEqual(tm_grow(0, ps, stars, [140, 138, 28, 0, 3, 0]), [2, 1, 1, 2, 0])
        self.assertEqual(tm_grow(2, ps, stars, [140, 138, 28, 0, 3, 0]), [3, 0, 2, 1, 1, 2, 0])

    def test_many_pictures(self):
        for below in (4, 9, 40, 8192):
            for count in (1, 2, 5, 20):
                for other in (1, 3, 6, 25):
                    s = picture(count, 3 * count + below, below)
                    t = picture(other, 7 * other + below, below)
                    for ps in (ON_ITSELF, HALVED, HALVED_AND_BACK, paired(picture(5, below), picture(5, other, 90))):
                        for r in (0, 1, 2, below // 4, FAR_REACH):
                            answer = tm_grow(r, ps, s, t)
                            with self.subTest(r=r, ps=ps, s=s, t=t):
                                self.assertIsNone(first_difference(answer, grown_by_words(r, ps, s, t)))

    def test_no_star_is_in_two_pairs(self):
        for below in (4, 9, 40, 8192):
            answer = tm_grow(FAR_REACH, ON_ITSELF, picture(40, 5, below), picture(50, 6, below))
            self.assertGreater(answer[0], 2)
            self.assertEqual(len(set(answer[1::2])), answer[0])
            self.assertEqual(len(set(answer[2::2])), answer[0])


class EdgesOfGrow(unittest.TestCase):
    def test_no_stars(self):
        for r in (0, FAR_REACH):
            self.assertEqual(tm_grow(r, ON_ITSELF, [], []), [0])
            self.assertEqual(tm_grow(r, ON_ITSELF, [5, 5], []), [0])
            self.assertEqual(tm_grow(r, ON_ITSELF, [], [5, 5, 6, 6]), [0])

    def test_one_star_in_each(self):
        self.assertEqual(tm_grow(0, ON_ITSELF, [5, 5], [5, 5]), [1, 0, 0])
        self.assertEqual(tm_grow(0, ON_ITSELF, [5, 5], [5, 6]), [0])
        self.assertEqual(tm_grow(1, ON_ITSELF, [5, 5], [5, 6]), [1, 0, 0])

    def test_of_two_as_near_to_where_one_is_carried_the_first(self):
        self.assertEqual(tm_grow(2, ON_ITSELF, [10, 10], [12, 10, 8, 10]), [1, 0, 0])
        self.assertEqual(tm_grow(2, ON_ITSELF, [10, 10], [50, 50, 10, 8, 12, 10, 10, 12]), [1, 0, 1])
        self.assertEqual(tm_grow(0, ON_ITSELF, [10, 10], [9, 9, 10, 10, 10, 10]), [1, 0, 1])

    def test_of_two_carried_as_near_the_first(self):
        self.assertEqual(tm_grow(2, ON_ITSELF, [8, 10, 12, 10], [10, 10]), [1, 0, 0])
        self.assertEqual(tm_grow(2, ON_ITSELF, [50, 50, 10, 12, 10, 8], [10, 10]), [1, 1, 0])
        self.assertEqual(tm_grow(0, ON_ITSELF, [9, 9, 10, 10, 10, 10], [10, 10]), [1, 1, 0])

    def test_two_carried_to_one_place_and_two_that_lie_there(self):
        # All four are as near to one another, but only the first of each side is told.
        self.assertEqual(tm_grow(9, ON_ITSELF, [10, 10, 10, 10], [10, 10, 10, 10]), [1, 0, 0])
        # By halves (3, 3) and (4, 4) both come to lie at (2, 2).
        self.assertEqual(tm_grow(9, HALVED, [3, 3, 4, 4], [2, 2, 2, 2]), [1, 0, 0])

    def test_nearer_to_another_one(self):
        # Star 1 comes nearest to the one star, which has a nearer one.
        self.assertEqual(tm_grow(FAR_REACH, ON_ITSELF, [0, 0, 10, 0], [4, 0]), [1, 0, 0])
        self.assertEqual(tm_grow(FAR_REACH, ON_ITSELF, [10, 0, 0, 0], [4, 0]), [1, 1, 0])
        # The second of the other picture has star 1 as its nearest, but star 1 a nearer one.
        self.assertEqual(tm_grow(FAR_REACH, ON_ITSELF, [0, 0, 10, 0], [4, 0, 100, 0]), [1, 0, 0])
        self.assertEqual(tm_grow(FAR_REACH, ON_ITSELF, [0, 0], [4, 0, 3, 0]), [1, 0, 1])

    def test_what_is_left_over_is_not_paired_after_all(self):
        # Star 0 has two as near: the first of them, which belongs to star 1, so star 0 stays alone.
        self.assertEqual(tm_grow(FAR_REACH, ON_ITSELF, [10, 10, 13, 10], [12, 10, 8, 10]), [1, 1, 0])
        # Likewise the other way about.
        self.assertEqual(tm_grow(FAR_REACH, ON_ITSELF, [12, 10, 8, 10], [10, 10, 13, 10]), [1, 0, 1])
        # With the other one first star 0 gets it.
        self.assertEqual(tm_grow(FAR_REACH, ON_ITSELF, [10, 10, 13, 10], [8, 10, 12, 10]), [2, 0, 0, 1, 1])

    def test_just_r_r_apart(self):
        self.assertEqual(tm_grow(5, ON_ITSELF, [10, 10], [13, 14]), [1, 0, 0])
        self.assertEqual(tm_grow(4, ON_ITSELF, [10, 10], [13, 14]), [0])
        self.assertEqual(tm_grow(5, ON_ITSELF, [10, 10], [10, 5]), [1, 0, 0])

    def test_one_more_than_r_r_apart(self):
        self.assertEqual(tm_grow(5, ON_ITSELF, [10, 10], [11, 15]), [0])
        self.assertEqual(tm_grow(6, ON_ITSELF, [10, 10], [11, 15]), [1, 0, 0])

    def test_r_of_0_and_of_65535(self):
        self.assertEqual(tm_grow(0, ON_ITSELF, [0, 0, 8191, 8191], [8191, 8191, 0, 1]), [1, 1, 0])
        self.assertEqual(tm_grow(65535, ON_ITSELF, [0, 0], [8191, 8191]), [1, 0, 0])
        # (x, y) comes to lie at (65 x, 65 y): (1009, 0) at (65585, 0).
        # That is 65535 from (50, 0), and one more from (49, 0).
        wide = [0, 0, 0, 0, 1, 0, 65, 0]
        self.assertEqual(tm_grow(65535, wide, [1009, 0], [50, 0]), [1, 0, 0])
        self.assertEqual(tm_grow(65535, wide, [1009, 0], [49, 0]), [0])
        self.assertEqual(tm_grow(65535, wide, [1009, 0], [50, 1]), [0])

    def test_carried_places_are_rounded(self):
        # (1, 3) comes to lie at (0.5, 1.5), so at (1, 2).
        self.assertEqual(tm_grow(0, HALVED, [1, 3], [1, 2]), [1, 0, 0])
        self.assertEqual(tm_grow(0, HALVED, [1, 3], [0, 1]), [0])
        # Unrounded, both would be as near.
        self.assertEqual(tm_grow(1, HALVED, [1, 2], [0, 1, 1, 1]), [1, 0, 1])
        # (15, 17) comes to lie at (0.5, -0.5), so at (1, 0).
        self.assertEqual(tm_grow(0, HALVED_AND_BACK, [15, 17], [1, 0]), [1, 0, 0])

    def test_carried_places_below_0(self):
        # (99, 199) comes to lie at (-1, -1), which is 2 from (0, 0), squared; (0, 0) at (-100, -200).
        self.assertEqual(tm_grow(2, MOVED_BACK, [99, 199], [0, 0]), [1, 0, 0])
        self.assertEqual(tm_grow(1, MOVED_BACK, [99, 199], [0, 0]), [0])
        self.assertEqual(tm_grow(224, MOVED_BACK, [0, 0], [8000, 8000, 0, 0]), [1, 0, 1])
        self.assertEqual(tm_grow(223, MOVED_BACK, [0, 0], [8000, 8000, 0, 0]), [0])

    def test_all_carried_to_one_place(self):
        to_one = [0, 0, 70, 80, 1, 0, 70, 80]
        self.assertEqual(tm_grow(0, to_one, picture(9, 1), [1, 1, 70, 80]), [1, 0, 1])

    def test_64_stars_are_granted(self):
        stars = picture(64, 42, 4000)
        places = picture(32, 41, 4000)
        ps = paired(places, moved(places, 5, 6))
        self.assertIsNone(first_difference(tm_grow(0, ps, stars, moved(stars, 5, 6)), each_with_its_own(64)))
        self.assertEqual(tm_grow(0, ON_ITSELF, stars, [9, 9])[0], 0)
        self.assertEqual(tm_grow(0, ON_ITSELF, stars, stars[-2:]), [1, 63, 0])
        self.assertEqual(tm_grow(0, ON_ITSELF, stars[-2:], stars), [1, 0, 63])

    def test_32_pairs_are_granted(self):
        places = picture(32, 72, 4000)
        self.assertEqual(tm_grow(0, paired(places, moved(places, 5, 6)), [1, 1], [6, 7]), [1, 0, 0])

    def test_8191_is_granted(self):
        corners = [8191, 8191, 8191, 8191, 0, 0, 0, 0]
        self.assertEqual(tm_grow(0, corners, [8191, 8191], [8191, 8191]), [1, 0, 0])


class RefusedGrow(unittest.TestCase):
    NOT_EXACT = [0, 0, 0, 0, 20, 0, 30, 0, 0, 20, 0, 20]

    def test_no_fit(self):
        s = [1, 2, 3, 4]
        self.assertEqual(tm_grow(5, [], s, s), [-4])
        self.assertEqual(tm_grow(5, [5, 6, 7, 8], s, s), [-4])
        self.assertEqual(tm_grow(5, [5, 6, 7, 8, 5, 6, 7, 8], s, s), [-4])
        self.assertEqual(tm_grow(5, [5, 6, 7, 8, 5, 6, 1, 2], s, s), [-4])
        self.assertEqual(tm_grow(5, paired([8191, 17] * 32, picture(32, 63)), s, s), [-4])

    def test_no_fit_even_where_there_are_no_stars(self):
        self.assertEqual(tm_grow(5, [], [], []), [-4])
        self.assertEqual(tm_grow(5, [5, 6, 7, 8], [1, 1], []), [-4])
        self.assertEqual(tm_grow(5, [5, 6, 7, 8], [], [1, 1]), [-4])

    def test_r_of_65536(self):
        for r in (65536, 65537, 4294967295):
            self.assertEqual(tm_grow(r, ON_ITSELF, [1, 1], [1, 1]), [-2])
            self.assertEqual(tm_grow(r, ON_ITSELF, [], []), [-2])

    def test_33_pairs(self):
        places = picture(33, 72)
        self.assertEqual(tm_grow(5, paired(places, places), [1, 1], [1, 1]), [-2])
        self.assertEqual(tm_grow(5, [0, 0, 0, 0] + ON_ITSELF * 16, [], []), [-2])

    def test_65_stars(self):
        self.assertEqual(tm_grow(5, ON_ITSELF, picture(65, 1), [1, 1])[:9], [-2])
        self.assertEqual(tm_grow(5, ON_ITSELF, [1, 1], picture(65, 1))[:9], [-2])
        self.assertEqual(tm_grow(5, ON_ITSELF, picture(65, 1), picture(65, 1))[:9], [-2])
        self.assertEqual(tm_grow(5, ON_ITSELF, picture(64, 1), picture(80, 1))[:9], [-2])
        self.assertEqual(tm_grow(5, ON_ITSELF, picture(80, 1), [])[:9], [-2])

    def test_8192_in_a_pair(self):
        for k in range(12):
            ps = list(self.NOT_EXACT)
            ps[k] = 8192
            with self.subTest(ps=ps):
                self.assertEqual(tm_grow(5, ps, [1, 1], [1, 1]), [-3])
                self.assertEqual(tm_grow(5, ps, [], []), [-3])
                ps[k] = 8191
                self.assertGreaterEqual(tm_grow(5, ps, [1, 1], [1, 1])[0], 0)

    def test_8192_in_a_star(self):
        for k in range(4):
            stars = [0, 0, 0, 0]
            for number in (8192, 65535):
                stars[k] = number
                self.assertEqual(tm_grow(5, ON_ITSELF, stars, [1, 1]), [-3])
                self.assertEqual(tm_grow(5, ON_ITSELF, stars, []), [-3])
                self.assertEqual(tm_grow(5, ON_ITSELF, [1, 1], stars), [-3])
                self.assertEqual(tm_grow(5, ON_ITSELF, [], stars), [-3])

    def test_out_of_range_goes_ahead_of_all_else(self):
        star = [1, 1]
        off = [8192, 0]
        many = [0] * 130
        self.assertEqual(tm_grow(65536, [], star, star), [-2])
        self.assertEqual(tm_grow(65536, [8192, 0, 0, 0], off, off), [-2])
        self.assertEqual(tm_grow(5, [7] * 132, star, star), [-2])
        self.assertEqual(tm_grow(5, [8192] * 132, off, off), [-2])
        self.assertEqual(tm_grow(5, [], many, star), [-2])
        self.assertEqual(tm_grow(5, [], star, many), [-2])
        self.assertEqual(tm_grow(5, [8192, 0, 0, 0], many, star), [-2])
        self.assertEqual(tm_grow(5, ON_ITSELF, off, many), [-2])
        self.assertEqual(tm_grow(5, ON_ITSELF, many, off), [-2])
        self.assertEqual(tm_grow(5, ON_ITSELF, [8192] * 130, []), [-2])
        self.assertEqual(tm_grow(5, ON_ITSELF, [], [8192] * 130), [-2])

    def test_too_great_goes_ahead_of_no_fit(self):
        for off in ([8192, 0], [0, 8192], [1, 1, 8192, 0]):
            self.assertEqual(tm_grow(5, [], off, [1, 1]), [-3])
            self.assertEqual(tm_grow(5, [], [1, 1], off), [-3])
            self.assertEqual(tm_grow(5, [5, 6, 7, 8], [], off), [-3])
        self.assertEqual(tm_grow(5, [5, 6, 7, 8192], [1, 1], [1, 1]), [-3])
        self.assertEqual(tm_grow(5, [8192, 6, 7, 8], [], []), [-3])


class GrowAsACall(unittest.TestCase):
    CALLS = (
        (300, ON_ITSELF, picture(9, 3), picture(12, 4)),
        (4000, paired(picture(6, 1), picture(6, 2)), picture(9, 3), picture(7, 4)),
        (5, ON_ITSELF, [], [1, 1]),
        (5, ON_ITSELF, [1, 1], []),
        (5, [], [1, 2], [1, 2]),
        (5, ON_ITSELF, [8192, 0], [1, 2]),
        (65536, ON_ITSELF, [1, 2], [1, 2]),
    )

    def test_what_is_handed_in_is_not_changed(self):
        for r, ps, s, t in self.CALLS:
            handed = [Untouched(numbers) for numbers in (ps, s, t)]
            tm_grow(r, *handed)
            self.assertEqual([list(numbers) for numbers in handed], [ps, s, t])

    def test_one_list_may_be_all_three(self):
        ps = [0, 0, 0, 0, 20, 0, 30, 0, 0, 20, 0, 20]
        self.assertEqual(tm_grow(5, ps, ps, ps), tm_grow(5, list(ps), list(ps), list(ps)))

    def test_a_second_call_answers_the_same(self):
        for r, ps, s, t in self.CALLS:
            first = tm_grow(r, ps, s, t)
            kept = list(first)
            first.append(99)
            tm_grow(9, HALVED, [1, 1, 7, 9], [4, 5])
            self.assertEqual(tm_grow(r, ps, s, t), kept)

    def test_the_answer_is_a_list_of_whole_numbers(self):
        for r, ps, s, t in self.CALLS:
            answer = tm_grow(r, ps, s, t)
            self.assertIs(type(answer), list)
            self.assertEqual({type(number) for number in answer}, {int})


if __name__ == "__main__":
    unittest.main()
