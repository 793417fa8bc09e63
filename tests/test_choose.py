import unittest

from skies import Untouched, first_difference, picture
from skymatch.matched import tm_choose

MOST = 4294967295


def told_by_the_document(n, least, votes):
    """The pairs once more, word by word: the greatest of what's left, looked for again and again."""
    m = len(votes) // n
    rows = list(range(n))
    columns = list(range(m))
    told = []
    while rows and columns:
        greatest = max(votes[m * i + j] for i in rows for j in columns)
        if greatest == 0 or greatest < least:
            break
        i, j = next((i, j) for i in rows for j in columns if votes[m * i + j] == greatest)
        told.extend([i, j])
        rows.remove(i)
        columns.remove(j)
    return [len(told) // 2] + told


def numbers(count, seed, below):
    """Some numbers of votes, the same ones each time."""
    return picture((count + 1) // 2, seed, below)[:count]


class OrdinaryChoice(unittest.TestCase):
    def test_pairs_in_the_order_in_which_they_are_chosen(self):
        self.assertEqual(tm_choose(3, 0, [1, 0, 5,
                                          9, 0, 0,
                                          0, 7, 0]), [3, 1, 0, 2, 1, 0, 2])

    def test_a_row_that_is_out_no_longer_counts(self):
        self.assertEqual(tm_choose(2, 0, [9, 8,
                                          3, 2]), [2, 0, 0, 1, 1])

    def test_a_column_that_is_out_no_longer_counts(self):
        self.assertEqual(tm_choose(2, 0, [9, 3,
                                          8, 2]), [2, 0, 0, 1, 1])

    def test_a_star_may_be_left_without_a_pair(self):
        # The 4 stands in the row and in the column of greater ones, and the 0 behind it is never chosen.
        self.assertEqual(tm_choose(3, 0, [9, 8, 0,
                                          7, 4, 6,
                                          5, 0, 3]), [2, 0, 0, 1, 2])

    def test_the_greatest_goes_first_even_where_others_would_make_more_votes(self):
        self.assertEqual(tm_choose(2, 0, [10, 9,
                                          9, 1]), [2, 0, 0, 1, 1])

    def test_more_rows_than_columns(self):
        self.assertEqual(tm_choose(4, 0, [1, 2,
                                          6, 3,
                                          7, 8,
                                          5, 4]), [2, 2, 1, 1, 0])

    def test_more_columns_than_rows(self):
        self.assertEqual(tm_choose(2, 0, [1, 6, 7, 5,
                                          2, 3, 8, 4]), [2, 1, 2, 0, 1])

    def test_many_rows(self):
        # Small numbers have many ties and many zeros, great ones few.
        for below in (2, 3, 10, 8192):
            for n, m in ((1, 7), (7, 1), (2, 9), (9, 2), (5, 5), (12, 11), (11, 12), (64, 64)):
                votes = numbers(n * m, 17 * n + m + below, below)
                for least in (0, 1, 2, below // 2):
                    with self.subTest(n=n, m=m, below=below, least=least):
                        expected = told_by_the_document(n, least, votes)
                        self.assertIsNone(first_difference(tm_choose(n, least, votes), expected))

    def test_no_star_is_in_two_pairs(self):
        answer = tm_choose(20, 0, [1 + number for number in numbers(600, 3, 50)])
        self.assertEqual(answer[0], 20)
        self.assertEqual(sorted(answer[1::2]), list(range(20)))
        self.assertEqual(len(set(answer[2::2])), 20)


class AsGreat(unittest.TestCase):
    def test_in_one_row_the_first(self):
        self.assertEqual(tm_choose(1, 0, [3, 5, 5, 5]), [1, 0, 1])

    def test_in_one_column_the_first(self):
        self.assertEqual(tm_choose(4, 0, [3, 5, 5, 5]), [1, 1, 0])

    def test_in_other_rows_and_columns_the_first_row_by_row(self):
        self.assertEqual(tm_choose(3, 0, [0, 0, 5,
                                          0, 5, 0,
                                          5, 0, 0]), [3, 0, 2, 1, 1, 2, 0])

    def test_a_lower_row_does_not_come_first_for_a_lower_column(self):
        self.assertEqual(tm_choose(2, 0, [1, 5,
                                          5, 2]), [2, 0, 1, 1, 0])

    def test_all_as_great(self):
        self.assertEqual(tm_choose(3, 0, [4] * 9), [3, 0, 0, 1, 1, 2, 2])
        self.assertEqual(tm_choose(2, 4, [4] * 6), [2, 0, 0, 1, 1])

    def test_the_first_of_those_that_are_left(self):
        # Once the 9 is chosen, of the fives only those outside its row and column count.
        self.assertEqual(tm_choose(3, 0, [5, 5, 5,
                                          9, 5, 5,
                                          5, 5, 5]), [3, 1, 0, 0, 1, 2, 2])


class LeastNumbers(unittest.TestCase):
    VOTES = [6, 1,
             0, 3]

    def test_least_of_0_and_of_1_ask_for_one_vote(self):
        self.assertEqual(tm_choose(2, 0, self.VOTES), [2, 0, 0, 1, 1])
        self.assertEqual(tm_choose(2, 1, self.VOTES), [2, 0, 0, 1, 1])
        self.assertEqual(tm_choose(2, 0, [1, 0, 0, 1]), [2, 0, 0, 1, 1])
        self.assertEqual(tm_choose(2, 1, [1, 0, 0, 1]), [2, 0, 0, 1, 1])
        self.assertEqual(tm_choose(2, 2, [1, 0, 0, 1]), [0])

    def test_zeros_are_never_chosen(self):
        self.assertEqual(tm_choose(2, 0, [0, 0, 0, 0]), [0])
        self.assertEqual(tm_choose(2, 1, [0, 0, 0, 0]), [0])
        self.assertEqual(tm_choose(2, 0, [6, 1, 2, 0]), [1, 0, 0])
        self.assertEqual(tm_choose(64, 0, [0] * 4096), [0])

    def test_just_as_many_as_least_are_enough(self):
        self.assertEqual(tm_choose(2, 3, self.VOTES), [2, 0, 0, 1, 1])
        self.assertEqual(tm_choose(2, 6, self.VOTES), [1, 0, 0])

    def test_one_fewer_than_least_are_not(self):
        self.assertEqual(tm_choose(2, 4, self.VOTES), [1, 0, 0])
        self.assertEqual(tm_choose(2, 7, self.VOTES), [0])

    def test_the_greatest_least(self):
        self.assertEqual(tm_choose(2, MOST, self.VOTES), [0])
        self.assertEqual(tm_choose(2, MOST, [MOST, 1, 2, MOST - 1]), [1, 0, 0])
        self.assertEqual(tm_choose(1, MOST, [MOST - 1]), [0])

    def test_votes_up_to_the_greatest_number(self):
        self.assertEqual(tm_choose(2, 0, [MOST - 1, MOST, 8192, 65536]), [2, 0, 1, 1, 0])
        self.assertEqual(tm_choose(2, 0, [0, 2147483648, 2147483647, MOST]), [1, 1, 1])
        self.assertEqual(tm_choose(3, 0, [MOST] * 9), [3, 0, 0, 1, 1, 2, 2])


class HowManyRowsAndColumns(unittest.TestCase):
    def test_one_row_and_one_column(self):
        self.assertEqual(tm_choose(1, 0, [7]), [1, 0, 0])
        self.assertEqual(tm_choose(1, 0, [0]), [0])
        self.assertEqual(tm_choose(1, 0, [2, 9, 4]), [1, 0, 1])
        self.assertEqual(tm_choose(3, 0, [2, 9, 4]), [1, 1, 0])

    def test_64_rows_and_64_columns_are_granted(self):
        self.assertEqual(tm_choose(64, 0, [0] * 63 + [1]), [1, 63, 0])
        self.assertEqual(tm_choose(1, 0, [0] * 63 + [1]), [1, 0, 63])
        self.assertEqual(tm_choose(64, 0, [0] * 4095 + [1]), [1, 63, 63])
        last_first = [0] * 4096
        for k in range(64):
            last_first[64 * k + 63 - k] = k + 1
        expected = [64]
        for k in range(63, -1, -1):
            expected.extend([k, 63 - k])
        self.assertIsNone(first_difference(tm_choose(64, 0, last_first), expected))

    def test_no_rows(self):
        self.assertEqual(tm_choose(0, 0, []), [-2])
        self.assertEqual(tm_choose(0, MOST, []), [-2])

    def test_65_rows(self):
        self.assertEqual(tm_choose(65, 0, [1] * 65), [-2])
        self.assertEqual(tm_choose(65, 0, [1] * (65 * 64)), [-2])
        self.assertEqual(tm_choose(65, 0, []), [-2])
        self.assertEqual(tm_choose(5000, 0, [1] * 5000), [-2])
        self.assertEqual(tm_choose(MOST, 0, []), [-2])

    def test_no_columns(self):
        for n in (1, 2, 64):
            self.assertEqual(tm_choose(n, 0, []), [-2])

    def test_65_columns(self):
        self.assertEqual(tm_choose(1, 0, [1] * 65), [-2])
        self.assertEqual(tm_choose(64, 0, [1] * (64 * 65)), [-2])
        self.assertEqual(tm_choose(64, MOST, [0] * (64 * 78)), [-2])
        self.assertEqual(tm_choose(1, 0, [1] * 5000), [-2])


class ChoiceAsACall(unittest.TestCase):
    CALLS = (
        (5, 0, numbers(30, 8, 9)),
        (5, 9, numbers(30, 8, 9)),
        (2, 0, [MOST, 8192, 65536, 1]),
        (0, 0, []),
        (3, 0, []),
        (65, 0, [1] * 65),
        (1, 0, [1] * 65),
    )

    def test_what_is_handed_in_is_not_changed(self):
        for n, least, votes in self.CALLS:
            handed = Untouched(votes)
            tm_choose(n, least, handed)
            self.assertEqual(list(handed), votes)

    def test_a_second_call_answers_the_same(self):
        for n, least, votes in self.CALLS:
            first = tm_choose(n, least, votes)
            kept = list(first)
            first.append(99)
            tm_choose(2, 0, [1, 2, 3, 4])
            self.assertEqual(tm_choose(n, least, votes), kept)

    def test_the_answer_is_a_list_of_whole_numbers(self):
        for n, least, votes in self.CALLS:
            answer = tm_choose(n, least, votes)
            self.assertIs(type(answer), list)
            self.assertEqual({type(number) for number in answer}, {int})


if __name__ == "__main__":
    unittest.main()
