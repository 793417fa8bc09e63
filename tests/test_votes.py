import unittest

from skies import Untouched, first_difference, mirrored, moved, picture, sixes, turned
from skymatch.matched import tm_triangles, tm_votes

NOT_LEFT = [0, 0, 4, 0, 0, 3]
AND_LEFT = [0, 0, 3, 0, 0, 4]


def told_by_the_document(e, s, t):
    """The votes once more, star by star, from the triangles as they are told."""
    ones = sixes(tm_triangles(s))
    others = sixes(tm_triangles(t))
    alike = [(one, other) for one in ones for other in others
             if one[5] == other[5]
             and -e <= one[3] - other[3] <= e
             and -e <= one[4] - other[4] <= e]
    rows = []
    for i in range(len(s) // 2):
        for j in range(len(t) // 2):
            rows.append(sum((i, j) in zip(one[:3], other[:3]) for one, other in alike))
    return [0] + rows


class OrdinaryVotes(unittest.TestCase):
    def test_one_alike_triangle_votes_for_its_three_corners(self):
        # The second picture's stars are those of the first in another order: 2, 0, 1.
        self.assertEqual(tm_votes(0, NOT_LEFT, [10, 13, 10, 10, 14, 10]),
                         [0,
                          0, 1, 0,
                          0, 0, 1,
                          1, 0, 0])

    def test_a_triangle_and_its_mirror_are_never_alike(self):
        self.assertEqual(tm_votes(65536, NOT_LEFT, AND_LEFT), [0] * 10)
        self.assertEqual(tm_votes(65536, AND_LEFT, NOT_LEFT), [0] * 10)
        self.assertEqual(tm_votes(0, AND_LEFT, AND_LEFT), [0, 1, 0, 0, 0, 1, 0, 0, 0, 1])

    def test_rows_are_of_the_first_picture_and_columns_of_the_second(self):
        # The star that's added lies on the right angle's, and makes the same triangle with the other two.
        self.assertEqual(tm_votes(0, NOT_LEFT, [0, 0] + NOT_LEFT),
                         [0,
                          1, 1, 0, 0,
                          0, 0, 2, 0,
                          0, 0, 0, 2])
        self.assertEqual(tm_votes(0, [0, 0] + NOT_LEFT, NOT_LEFT),
                         [0,
                          1, 0, 0,
                          1, 0, 0,
                          0, 2, 0,
                          0, 0, 2])

    def test_each_pair_of_alike_triangles_counts(self):
        places = picture(24, 11)
        other = picture(23, 12)
        lefts = sum(six[5] for six in sixes(tm_triangles(places)))
        rights = tm_triangles(places)[0] - lefts
        other_lefts = sum(six[5] for six in sixes(tm_triangles(other)))
        other_rights = tm_triangles(other)[0] - other_lefts
        answer = tm_votes(65536, places, other)
        self.assertEqual(len(answer), 1 + 24 * 23)
        self.assertEqual(sum(answer), 3 * (lefts * other_lefts + rights * other_rights))

    def test_many_pictures(self):
        for e in (0, 1, 300, 5000, 30000, 65536):
            for below in (5, 40, 8192):
                for n, m in ((3, 3), (4, 7), (7, 4), (8, 8)):
                    s = picture(n, 7 * n + e, below)
                    t = picture(m, 13 * m + e + 1, below)
                    with self.subTest(e=e, s=s, t=t):
                        expected = told_by_the_document(e, s, t)
                        self.assertIsNone(first_difference(tm_votes(e, s, t), expected))

    def test_a_picture_moved_and_turned_has_its_votes_on_its_own_stars(self):
        places = picture(8, 21, 3000)
        again = turned(moved(places, 400, 90), 8000)
        answer = tm_votes(0, places, again)
        self.assertIsNone(first_difference(answer, tm_votes(0, places, places)))
        for star in range(8):
            row = answer[1 + 8 * star:9 + 8 * star]
            self.assertEqual(row.index(max(row)), star)
            self.assertEqual(row[star], 21)

    def test_a_mirrored_picture_has_none_of_them(self):
        places = picture(8, 21)
        self.assertEqual(sum(tm_votes(0, places, mirrored(places, 8191))), 0)


class EdgesOfVotes(unittest.TestCase):
    def test_no_farther_apart_than_e_for_u_and_v_either_way(self):
        # The longest side stays 100 long, so that u and v change by the third star alone.
        base = [0, 0, 100, 0, 20, 50]
        one = sixes(tm_triangles(base))[0]
        greater = set()
        for third in ([21, 50], [19, 50], [20, 51], [20, 49], [18, 53], [22, 47]):
            changed = base[:4] + third
            other = sixes(tm_triangles(changed))[0]
            self.assertEqual(one[5], other[5])
            by_u = abs(one[3] - other[3])
            by_v = abs(one[4] - other[4])
            greater.add("u" if by_u > by_v else "v")
            apart = max(by_u, by_v)
            with self.subTest(third=third):
                self.assertEqual(sum(tm_votes(apart, base, changed)), 3)
                self.assertEqual(sum(tm_votes(apart - 1, base, changed)), 0)
                self.assertEqual(sum(tm_votes(apart, changed, base)), 3)
                self.assertEqual(sum(tm_votes(apart - 1, changed, base)), 0)
        self.assertEqual(greater, {"u", "v"})

    def test_no_stars(self):
        self.assertEqual(tm_votes(5, [], []), [0])
        self.assertEqual(tm_votes(5, NOT_LEFT, []), [0])
        self.assertEqual(tm_votes(5, [], NOT_LEFT), [0])

    def test_fewer_than_three_stars_have_rows_without_votes(self):
        self.assertEqual(tm_votes(65536, [1, 1], [2, 3]), [0, 0])
        self.assertEqual(tm_votes(65536, [1, 1, 5, 8], NOT_LEFT), [0] * 7)
        self.assertEqual(tm_votes(65536, NOT_LEFT, [1, 1, 5, 8]), [0] * 7)

    def test_no_triangle_no_votes(self):
        as_long = [0, 0, 2, 0, 1, 5]
        on_a_line = [0, 0, 1, 0, 3, 0]
        for none in (as_long, on_a_line):
            self.assertEqual(tm_votes(65536, none, none), [0] * 10)
            self.assertEqual(tm_votes(65536, none, NOT_LEFT), [0] * 10)
            self.assertEqual(tm_votes(65536, NOT_LEFT, none), [0] * 10)

    def test_e_of_0_asks_for_the_same_numbers(self):
        self.assertEqual(sum(tm_votes(0, NOT_LEFT, [0, 0, 8, 0, 0, 6])), 3)
        self.assertEqual(sum(tm_votes(0, NOT_LEFT, [0, 0, 8, 0, 0, 5])), 0)

    def test_e_of_65536_is_granted(self):
        flat = [0, 0, 8191, 0, 8190, 1]
        self.assertEqual(sum(tm_votes(65536, AND_LEFT, flat)) + sum(tm_votes(65536, NOT_LEFT, flat)), 3)

    def test_24_stars_are_granted(self):
        s = picture(24, 9)
        t = picture(24, 10)
        answer = tm_votes(0, s, t)
        self.assertEqual(len(answer), 1 + 24 * 24)
        self.assertEqual(answer[0], 0)

    def test_8191_is_granted(self):
        self.assertEqual(tm_votes(0, [8191, 8191], [8191, 8191]), [0, 0])


class RefusedVotes(unittest.TestCase):
    def test_e_above_65536(self):
        self.assertEqual(tm_votes(65537, NOT_LEFT, NOT_LEFT), [-2])
        self.assertEqual(tm_votes(4294967295, [], []), [-2])

    def test_25_stars(self):
        self.assertEqual(tm_votes(0, picture(25, 9), NOT_LEFT), [-2])
        self.assertEqual(tm_votes(0, NOT_LEFT, picture(25, 9)), [-2])
        self.assertEqual(tm_votes(0, [], [0] * 60), [-2])
        self.assertEqual(tm_votes(0, [0] * 60, []), [-2])

    def test_8192(self):
        for k in range(6):
            places = list(NOT_LEFT)
            places[k] = 8192
            with self.subTest(places=places):
                self.assertEqual(tm_votes(0, places, NOT_LEFT), [-3])
                self.assertEqual(tm_votes(0, NOT_LEFT, places), [-3])
                self.assertEqual(tm_votes(0, places, places), [-3])

    def test_too_great_even_where_there_are_no_votes(self):
        self.assertEqual(tm_votes(0, [], [0, 65535]), [-3])
        self.assertEqual(tm_votes(0, [8192, 0], []), [-3])

    def test_out_of_range_goes_ahead_of_too_great(self):
        wrong = [8192, 0]
        many = [0] * 50
        self.assertEqual(tm_votes(65537, wrong, NOT_LEFT), [-2])
        self.assertEqual(tm_votes(65537, NOT_LEFT, wrong), [-2])
        self.assertEqual(tm_votes(0, wrong, many), [-2])
        self.assertEqual(tm_votes(0, many, wrong), [-2])
        self.assertEqual(tm_votes(0, [65535] * 60, wrong), [-2])


class VotesAsACall(unittest.TestCase):
    CALLS = (
        (0, [], []),
        (500, picture(6, 1), picture(7, 2)),
        (65537, picture(6, 1), picture(7, 2)),
        (0, picture(25, 1), picture(7, 2)),
        (0, [8192, 0], picture(7, 2)),
    )

    def test_what_is_handed_in_is_not_changed(self):
        for e, s, t in self.CALLS:
            first = Untouched(s)
            second = Untouched(t)
            tm_votes(e, first, second)
            self.assertEqual((list(first), list(second)), (s, t))

    def test_one_list_may_be_both_pictures(self):
        places = picture(6, 1)
        self.assertEqual(tm_votes(0, places, places), tm_votes(0, list(places), list(places)))

    def test_a_second_call_answers_the_same(self):
        for e, s, t in self.CALLS:
            first = tm_votes(e, s, t)
            kept = list(first)
            first.append(99)
            tm_votes(3, t[:12], t[:8])
            self.assertEqual(tm_votes(e, s, t), kept)

    def test_the_answer_is_a_list_of_whole_numbers(self):
        for e, s, t in self.CALLS:
            answer = tm_votes(e, s, t)
            self.assertIs(type(answer), list)
            self.assertEqual({type(number) for number in answer}, {int})


if __name__ == "__main__":
    unittest.main()
