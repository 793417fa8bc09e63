import unittest

from skies import Untouched, mirrored, moved, picture, turned
from skymatch.matched import tm_choose, tm_match, tm_votes

MOST = 4294967295
NOT_LEFT = [0, 0, 4, 0, 0, 3]


class OrdinaryMatch(unittest.TestCase):
    def test_one_triangle_in_another_order(self):
        self.assertEqual(tm_match(0, 0, NOT_LEFT, [10, 13, 10, 10, 14, 10]), [3, 0, 1, 1, 2, 2, 0])

    def test_more_votes_are_chosen_first(self):
        # The star that's added lies on the right angle's, so the votes are 1 1 0 0, 0 0 2 0, 0 0 0 2.
        self.assertEqual(tm_match(0, 0, NOT_LEFT, [0, 0] + NOT_LEFT), [3, 1, 2, 2, 3, 0, 0])
        self.assertEqual(tm_match(0, 0, [0, 0] + NOT_LEFT, NOT_LEFT), [3, 2, 1, 3, 2, 0, 0])

    def test_the_first_picture_tells_the_rows(self):
        # Star 3 of the longer picture lies far off, and has no votes.
        longer = [10, 13, 10, 10, 14, 10, 10, 8000]
        self.assertEqual(tm_match(0, 0, NOT_LEFT, longer), [3, 0, 1, 1, 2, 2, 0])
        self.assertEqual(tm_match(0, 0, longer, NOT_LEFT), [3, 0, 2, 1, 0, 2, 1])

    def test_tm_choose_of_the_votes_answers_the_same(self):
        for e in (0, 300, 5000, 65536):
            for below in (6, 40, 8192):
                for n, m in ((1, 1), (3, 3), (4, 7), (7, 4), (8, 8), (2, 5)):
                    s = picture(n, 7 * n + e, below)
                    t = picture(m, 13 * m + e + 1, below)
                    votes = tm_votes(e, s, t)[1:]
                    for least in (0, 1, 2, 5, max(votes), max(votes) + 1, MOST):
                        with self.subTest(e=e, least=least, s=s, t=t):
                            self.assertEqual(tm_match(e, least, s, t), tm_choose(n, least, votes))

    def test_a_picture_moved_and_turned_is_found_again(self):
        places = picture(10, 21, 3000)
        again = turned(moved(places, 400, 90), 8000)
        answer = tm_match(0, 1, places, again)
        self.assertEqual(answer[0], 10)
        self.assertEqual(answer[1::2], answer[2::2])
        self.assertEqual(sorted(answer[1::2]), list(range(10)))

    def test_stars_that_only_one_picture_has_are_left_out(self):
        places = picture(9, 22, 3000)
        again = picture(1, 90) + moved(places[4:], 50, 700)
        answer = tm_match(0, 2, places, again)
        self.assertEqual({(i, j) for i, j in zip(answer[1::2], answer[2::2])}, {(k + 1, k) for k in range(1, 8)})
        self.assertEqual(answer[0], 7)

    def test_a_mirrored_picture_has_no_pairs(self):
        places = picture(8, 21)
        self.assertEqual(tm_match(0, 0, places, mirrored(places, 8191)), [0])


class EdgesOfMatch(unittest.TestCase):
    def test_least(self):
        doubled = [0, 0] + NOT_LEFT
        for least, expected in ((0, [3, 1, 2, 2, 3, 0, 0]),
                                (1, [3, 1, 2, 2, 3, 0, 0]),
                                (2, [2, 1, 2, 2, 3]),
                                (3, [0]),
                                (MOST, [0])):
            with self.subTest(least=least):
                self.assertEqual(tm_match(0, least, NOT_LEFT, doubled), expected)

    def test_no_stars(self):
        self.assertEqual(tm_match(5, 0, [], []), [0])
        self.assertEqual(tm_match(5, 0, NOT_LEFT, []), [0])
        self.assertEqual(tm_match(5, 0, [], NOT_LEFT), [0])

    def test_fewer_than_three_stars_have_no_pairs(self):
        self.assertEqual(tm_match(65536, 0, [1, 1], [2, 3]), [0])
        self.assertEqual(tm_match(65536, 0, [1, 1, 5, 8], NOT_LEFT), [0])
        self.assertEqual(tm_match(65536, 0, NOT_LEFT, [1, 1, 5, 8]), [0])

    def test_no_triangle_no_pairs(self):
        on_a_line = [0, 0, 1, 0, 3, 0]
        self.assertEqual(tm_match(65536, 0, on_a_line, on_a_line), [0])

    def test_e_of_0_asks_for_the_same_numbers(self):
        self.assertEqual(tm_match(0, 0, NOT_LEFT, [0, 0, 8, 0, 0, 6]), [3, 0, 0, 1, 1, 2, 2])
        self.assertEqual(tm_match(0, 0, NOT_LEFT, [0, 0, 8, 0, 0, 5]), [0])

    def test_e_of_65536_is_granted(self):
        # The numbers of these two are far apart, and neither of them is left.
        self.assertEqual(tm_match(65535, 0, NOT_LEFT, [8190, 1, 0, 0, 8191, 0])[0], 3)
        self.assertEqual(tm_match(65536, 0, NOT_LEFT, [8190, 1, 0, 0, 8191, 0])[0], 3)

    def test_24_stars_are_granted(self):
        places = picture(24, 9)
        answer = tm_match(0, 1, places, places)
        self.assertEqual(answer[0], 24)
        self.assertEqual(answer[1::2], answer[2::2])
        self.assertEqual(sorted(answer[1::2]), list(range(24)))

    def test_8191_is_granted(self):
        self.assertEqual(tm_match(0, 0, [8191, 8191], [8191, 8191]), [0])
        corner = [8191, 8191, 8187, 8191, 8191, 8188]
        self.assertEqual(tm_match(0, 0, NOT_LEFT, corner), [3, 0, 0, 1, 1, 2, 2])
        self.assertEqual(tm_match(0, 0, corner, NOT_LEFT), [3, 0, 0, 1, 1, 2, 2])


class RefusedMatch(unittest.TestCase):
    def test_e_above_65536(self):
        self.assertEqual(tm_match(65537, 0, NOT_LEFT, NOT_LEFT), [-2])
        self.assertEqual(tm_match(MOST, 0, [], []), [-2])

    def test_25_stars(self):
        self.assertEqual(tm_match(0, 0, picture(25, 9), NOT_LEFT), [-2])
        self.assertEqual(tm_match(0, 0, NOT_LEFT, picture(25, 9)), [-2])
        self.assertEqual(tm_match(0, 0, [], [0] * 60), [-2])
        self.assertEqual(tm_match(0, 0, [0] * 60, []), [-2])

    def test_8192(self):
        for k in range(6):
            places = list(NOT_LEFT)
            places[k] = 8192
            with self.subTest(places=places):
                self.assertEqual(tm_match(0, 0, places, NOT_LEFT), [-3])
                self.assertEqual(tm_match(0, 0, NOT_LEFT, places), [-3])
                self.assertEqual(tm_match(0, MOST, places, places), [-3])

    def test_too_great_even_where_there_are_no_votes(self):
        self.assertEqual(tm_match(0, 0, [], [0, 65535]), [-3])
        self.assertEqual(tm_match(0, 0, [8192, 0], []), [-3])

    def test_out_of_range_goes_ahead_of_too_great(self):
        wrong = [8192, 0]
        many = [0] * 50
        self.assertEqual(tm_match(65537, 0, wrong, NOT_LEFT), [-2])
        self.assertEqual(tm_match(65537, 0, NOT_LEFT, wrong), [-2])
        self.assertEqual(tm_match(0, 0, wrong, many), [-2])
        self.assertEqual(tm_match(0, 0, many, wrong), [-2])
        self.assertEqual(tm_match(0, 0, [65535] * 60, wrong), [-2])


class MatchAsACall(unittest.TestCase):
    CALLS = (
        (0, 0, [], []),
        (500, 1, picture(6, 1), picture(7, 2)),
        (65537, 0, picture(6, 1), picture(7, 2)),
        (0, 0, picture(25, 1), picture(7, 2)),
        (0, 0, [8192, 0], picture(7, 2)),
    )

    def test_what_is_handed_in_is_not_changed(self):
        for e, least, s, t in self.CALLS:
            first = Untouched(s)
            second = Untouched(t)
            tm_match(e, least, first, second)
            self.assertEqual((list(first), list(second)), (s, t))

    def test_one_list_may_be_both_pictures(self):
        places = picture(6, 1)
        self.assertEqual(tm_match(0, 0, places, places), tm_match(0, 0, list(places), list(places)))

    def test_a_second_call_answers_the_same(self):
        for e, least, s, t in self.CALLS:
            first = tm_match(e, least, s, t)
            kept = list(first)
            first.append(99)
            tm_match(3, 0, t[:12], t[:8])
            self.assertEqual(tm_match(e, least, s, t), kept)

    def test_the_answer_is_a_list_of_whole_numbers(self):
        for e, least, s, t in self.CALLS:
            answer = tm_match(e, least, s, t)
            self.assertIs(type(answer), list)
            self.assertEqual({type(number) for number in answer}, {int})


if __name__ == "__main__":
    unittest.main()
