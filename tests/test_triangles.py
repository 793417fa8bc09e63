import unittest
from fractions import Fraction
from itertools import combinations
from math import floor

from skies import Untouched, first_difference, mirrored, moved, picture, sixes, turned
from skymatch.matched import tm_triangles


def told_by_the_document(places):
    """The triangles once more, in another way: with fractions, and corners found one by one."""
    stars = list(zip(places[0::2], places[1::2]))

    def far(pair):
        (x, y), (u, v) = stars[pair[0]], stars[pair[1]]
        return (x - u) ** 2 + (y - v) ** 2

    found = []
    for three in combinations(range(len(stars)), 3):
        side = {corner: far([other for other in three if other != corner]) for corner in three}
        if len(set(side.values())) < 3:
            continue
        a = max(three, key=side.get)
        c = min(three, key=side.get)
        b = sum(three) - a - c
        first = (stars[b][0] - stars[a][0]) * (stars[c][1] - stars[a][1])
        second = (stars[b][1] - stars[a][1]) * (stars[c][0] - stars[a][0])
        if first == second:
            continue
        u = floor(Fraction(65536 * side[b], side[a]))
        v = floor(Fraction(65536 * side[c], side[a]))
        found.append((a, b, c, u, v, 1 if first > second else 0))
    return found


class OrdinaryTriangles(unittest.TestCase):
    def test_one_that_is_not_left(self):
        # Sides squared 25, 16, 9; 65536 * 9 / 25 is 23592.96, so v shows that it's rounded down.
        self.assertEqual(tm_triangles([0, 0, 4, 0, 0, 3]), [1, 0, 2, 1, 41943, 23592, 0])

    def test_one_that_is_left(self):
        self.assertEqual(tm_triangles([0, 0, 3, 0, 0, 4]), [1, 0, 1, 2, 41943, 23592, 1])

    def test_corners_follow_the_sides_whatever_the_stars_order(self):
        right_angle, far_end, near_end = [0, 0], [4, 0], [0, 3]
        self.assertEqual(tm_triangles(far_end + right_angle + near_end), [1, 1, 2, 0, 41943, 23592, 0])
        self.assertEqual(tm_triangles(near_end + far_end + right_angle), [1, 2, 0, 1, 41943, 23592, 0])
        self.assertEqual(tm_triangles(near_end + right_angle + far_end), [1, 1, 0, 2, 41943, 23592, 0])

    def test_four_stars_by_first_then_second_then_third(self):
        # How far, squared: 0 1 16, 0 2 9, 0 3 101, 1 2 25, 1 3 37, 2 3 104.
        answer = tm_triangles([0, 0, 4, 0, 0, 3, 10, 1])
        self.assertEqual(answer, [
            4,
            0, 2, 1, 41943, 23592, 0,
            1, 0, 3, 24008, 10381, 0,
            0, 2, 3, 63645, 5671, 0,
            1, 2, 3, 23315, 15753, 0,
        ])

    def test_the_order_of_triangles_is_that_of_their_stars(self):
        told = [tuple(sorted(six[:3])) for six in sixes(tm_triangles(picture(24, 5)))]
        self.assertIsNone(first_difference(told, sorted(told)))
        self.assertEqual(len(told), len(set(told)))

    def test_many_pictures(self):
        # Small chips have many ties and many stars on a line; large ones have long sides.
        for below in (3, 6, 20, 300, 8192):
            for count in range(3, 13):
                places = picture(count, 31 * count + below, below)
                with self.subTest(places=places):
                    expected = told_by_the_document(places)
                    answer = tm_triangles(places)
                    self.assertEqual(answer[0], len(expected))
                    self.assertIsNone(first_difference(sixes(answer), expected))
                    self.assertEqual(len(answer), 1 + 6 * len(expected))

    def test_a_triangle_is_told_alike_wherever_it_stands(self):
        places = picture(9, 77, 2000)
        answer = tm_triangles(places)
        self.assertGreater(answer[0], 0)
        self.assertIsNone(first_difference(tm_triangles(moved(places, 6191, 17)), answer))
        self.assertIsNone(first_difference(tm_triangles(turned(places, 4000)), answer))

    def test_a_mirror_changes_left_alone(self):
        places = picture(9, 78)
        expected = [six[:5] + (1 - six[5],) for six in sixes(tm_triangles(places))]
        self.assertIsNone(first_difference(sixes(tm_triangles(mirrored(places, 8191))), expected))


class EdgesOfTriangles(unittest.TestCase):
    def test_fewer_than_three_stars(self):
        self.assertEqual(tm_triangles([]), [0])
        self.assertEqual(tm_triangles([5, 6]), [0])
        self.assertEqual(tm_triangles([5, 6, 7, 9]), [0])

    def test_the_two_shorter_sides_as_long(self):
        self.assertEqual(tm_triangles([0, 0, 2, 0, 1, 1]), [0])

    def test_the_two_longer_sides_as_long(self):
        self.assertEqual(tm_triangles([0, 0, 2, 0, 1, 5]), [0])

    def test_sides_that_differ_by_little_count(self):
        # Squared 67092481, 67092482 and 1: u is 65535 only because it's rounded down.
        self.assertEqual(tm_triangles([0, 0, 8191, 0, 8191, 1]), [1, 1, 2, 0, 65535, 0, 1])

    def test_stars_on_a_line(self):
        self.assertEqual(tm_triangles([0, 0, 1, 0, 3, 0]), [0])
        self.assertEqual(tm_triangles([7, 0, 7, 5, 7, 1]), [0])
        self.assertEqual(tm_triangles([1, 2, 3, 6, 4, 8]), [0])

    def test_stars_nearly_on_a_line_count(self):
        # How far, squared: 0 1 67092482, 1 2 16777217, 0 2 16769025.
        self.assertEqual(tm_triangles([0, 0, 8191, 1, 4095, 0]), [1, 2, 0, 1, 16388, 16379, 0])

    def test_stars_on_one_another(self):
        self.assertEqual(tm_triangles([3, 3, 3, 3, 9, 4]), [0])
        self.assertEqual(tm_triangles([3, 3, 3, 3, 3, 3]), [0])

    def test_those_that_are_none_are_left_out_of_the_list(self):
        # Stars 0, 1, 3 lie on a line, and 0, 1, 2 have two sides as long.
        places = [0, 0, 2, 0, 1, 1, 5, 0]
        self.assertEqual([tuple(sorted(six[:3])) for six in sixes(tm_triangles(places))],
                         [(0, 2, 3), (1, 2, 3)])

    def test_24_stars_are_granted(self):
        places = picture(24, 9)
        answer = tm_triangles(places)
        self.assertIsNone(first_difference(sixes(answer), told_by_the_document(places)))
        self.assertEqual(answer[0], 2024)

    def test_8191_is_granted(self):
        self.assertEqual(tm_triangles([0, 0, 8191, 0, 0, 8190])[0], 1)
        self.assertEqual(tm_triangles([8191, 8191]), [0])


class RefusedTriangles(unittest.TestCase):
    def test_25_stars(self):
        self.assertEqual(tm_triangles(picture(25, 9))[:9], [-2])
        self.assertEqual(tm_triangles([0] * 60), [-2])

    def test_8192(self):
        for k in range(6):
            places = [0, 0, 4, 0, 0, 3]
            places[k] = 8192
            with self.subTest(places=places):
                self.assertEqual(tm_triangles(places), [-3])

    def test_too_great_even_where_there_is_no_triangle(self):
        self.assertEqual(tm_triangles([8192, 0]), [-3])
        self.assertEqual(tm_triangles([0, 65535]), [-3])
        self.assertEqual(tm_triangles(picture(23, 9) + [0, 8192])[:9], [-3])

    def test_too_many_goes_ahead_of_too_great(self):
        self.assertEqual(tm_triangles([8192] + [0] * 49), [-2])
        self.assertEqual(tm_triangles([65535] * 60), [-2])


class TrianglesAsACall(unittest.TestCase):
    def test_what_is_handed_in_is_not_changed(self):
        for places in ([], picture(7, 3), picture(25, 3), [8192, 0]):
            handed = Untouched(places)
            tm_triangles(handed)
            self.assertEqual(list(handed), places)

    def test_a_second_call_answers_the_same(self):
        places = picture(7, 3)
        first = tm_triangles(places)
        kept = list(first)
        first.append(99)
        tm_triangles(picture(8, 4))
        self.assertIsNone(first_difference(tm_triangles(places), kept))

    def test_the_answer_is_a_list_of_whole_numbers(self):
        for places in ([], picture(7, 3), picture(25, 3), [8192, 0]):
            answer = tm_triangles(places)
            self.assertIs(type(answer), list)
            self.assertEqual({type(number) for number in answer}, {int})


if __name__ == "__main__":
    unittest.main()
