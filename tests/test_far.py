import unittest

from skies import Untouched, first_difference, moved, picture
from skymatch.matched import tm_far


def far_by_lengths(p, q):
    """How far each is, worked out from the lesser number to the greater one."""
    answer = [0]
    for k in range(0, len(p), 2):
        across = max(p[k], q[k]) - min(p[k], q[k])
        along = max(p[k + 1], q[k + 1]) - min(p[k + 1], q[k + 1])
        answer.append(across ** 2 + along ** 2)
    return answer


class OrdinaryFar(unittest.TestCase):
    def test_several_places(self):
        self.assertEqual(tm_far([0, 0, 10, 20, 7, 7], [3, 4, 15, 8, 7, 7]), [0, 25, 169, 0])

    def test_on_either_side(self):
        for place in ([3, 4], [13, 4], [3, 16], [13, 16]):
            # (8, 10) is 5 and 6 from each of them.
            self.assertEqual(tm_far([8, 10], place), [0, 61])
            self.assertEqual(tm_far(place, [8, 10]), [0, 61])

    def test_x_and_y_count_alike(self):
        self.assertEqual(tm_far([0, 0, 0, 0], [9, 0, 0, 9]), [0, 81, 81])
        self.assertEqual(tm_far([0, 0], [1, 2]), [0, 5])

    def test_the_same_place_twice(self):
        self.assertEqual(tm_far([5, 6, 5, 6], [5, 6, 5, 6]), [0, 0, 0])
        self.assertEqual(tm_far([5, 6, 5, 6], [8, 6, 5, 8]), [0, 9, 4])

    def test_each_with_the_one_that_stands_there(self):
        # Not with the nearest: the second of the one lies on the first of the other.
        self.assertEqual(tm_far([0, 0, 4, 4], [4, 4, 0, 0]), [0, 32, 32])

    def test_in_their_order(self):
        self.assertEqual(tm_far([0] * 8, [9, 0, 1, 0, 7, 0, 3, 0]), [0, 81, 1, 49, 9])

    def test_moved(self):
        places = picture(50, 3)
        self.assertEqual(tm_far(places, moved(places, 5, 12)), [0] + [169] * 50)
        self.assertEqual(tm_far(moved(places, 5, 12), places), [0] + [169] * 50)

    def test_many_places(self):
        for below in (2, 10, 8192, 65536):
            p = picture(60, 4, below)
            q = picture(60, 9, below)
            self.assertIsNone(first_difference(tm_far(p, q), far_by_lengths(p, q)))
            self.assertIsNone(first_difference(tm_far(q, p), far_by_lengths(p, q)))


class EdgesOfFar(unittest.TestCase):
    def test_no_places(self):
        self.assertEqual(tm_far([], []), [0])

    def test_one_place(self):
        self.assertEqual(tm_far([0, 0], [0, 0]), [0, 0])
        self.assertEqual(tm_far([1, 1], [0, 0]), [0, 2])

    def test_8192_and_more_is_granted(self):
        self.assertEqual(tm_far([8191, 8192], [8192, 8194]), [0, 5])
        self.assertEqual(tm_far([8192, 0], [0, 0]), [0, 67108864])
        self.assertEqual(tm_far([0, 0], [0, 8192]), [0, 67108864])

    def test_65535_is_granted(self):
        self.assertEqual(tm_far([65535, 65535], [65535, 65535]), [0, 0])
        self.assertEqual(tm_far([65535, 0], [0, 0]), [0, 4294836225])
        self.assertEqual(tm_far([0, 0], [0, 65535]), [0, 4294836225])

    def test_the_farthest_is_told_whole(self):
        # 2 * 65535 ^ 2 is above 2 ^ 32: it's a whole number, not a word.
        self.assertEqual(tm_far([0, 0, 65535, 0], [65535, 65535, 0, 65535]), [0, 8589672450, 8589672450])
        self.assertEqual(tm_far([65535, 65535], [0, 0]), [0, 8589672450])

    def test_4096_places_are_granted(self):
        p = picture(4096, 5, 65536)
        q = picture(4096, 6, 65536)
        answer = tm_far(p, q)
        self.assertEqual(len(answer), 4097)
        self.assertIsNone(first_difference(answer, far_by_lengths(p, q)))


class RefusedFar(unittest.TestCase):
    def test_4097_places(self):
        self.assertEqual(tm_far(picture(4097, 5), picture(4097, 6))[:9], [-2])
        self.assertEqual(tm_far([0] * 8194, [0] * 8194)[:9], [-2])
        self.assertEqual(tm_far([65535] * 8300, [65535] * 8300)[:9], [-2])

    def test_65536(self):
        for k in range(4):
            places = [0, 0, 0, 0]
            places[k] = 65536
            self.assertEqual(tm_far(places, [0, 0, 0, 0]), [-2])
            self.assertEqual(tm_far([0, 0, 0, 0], places), [-2])


class FarAsACall(unittest.TestCase):
    CALLS = (
        (picture(9, 3, 65536), picture(9, 4, 65536)),
        ([1, 2], [1, 2]),
        ([], []),
        ([0] * 8194, [1] * 8194),
    )

    def test_what_is_handed_in_is_not_changed(self):
        for p, q in self.CALLS:
            these = Untouched(p)
            those = Untouched(q)
            tm_far(these, those)
            self.assertIsNone(first_difference(list(these), p))
            self.assertIsNone(first_difference(list(those), q))

    def test_one_list_may_be_both(self):
        places = picture(9, 3)
        self.assertEqual(tm_far(places, places), [0] * 10)

    def test_a_second_call_answers_the_same(self):
        for p, q in self.CALLS:
            first = tm_far(p, q)
            kept = list(first)
            first.append(99)
            tm_far([5, 5], [9, 9])
            self.assertEqual(tm_far(p, q)[:20], kept)

    def test_the_answer_is_a_list_of_whole_numbers(self):
        for p, q in self.CALLS:
            answer = tm_far(p, q)
            self.assertIs(type(answer), list)
            self.assertEqual({type(number) for number in answer}, {int})


if __name__ == "__main__":
    unittest.main()
