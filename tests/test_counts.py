import unittest
from itertools import combinations, permutations, product

from odd_things import bad_counts, odd_things
from tiecount.counts import need_counts, wanted
from tiecount.errors import BadCounts, BadMany

GOOD_COUNTS = [
    [0], [1], [20], [0] * 10, [20] * 10, list(range(10)), list(range(11, 21)), [3, 0, 20], [2, 2, 2],
]


def bad_manys(length):
    """A new list of things that are no many for so many counts."""
    return odd_things() + [-1, -2, length + 1, length + 2, 10 ** 30, -10 ** 30, [1], (1,), []]


def wanted_of(chosen, rest):
    """What point 4 says of counts that are chosen, and of the other ones."""
    there = 0
    for _ in chosen:
        there += len(chosen) - 1
    for count in rest:
        there += count if count < len(chosen) else len(chosen)
    return sum(chosen), there


def wanted_by_trying(counts, many):
    """The answer for those of all choices whose sum is the greatest."""
    answers = {}
    for chosen in combinations(range(len(counts)), many):
        rest = [counts[at] for at in range(len(counts)) if at not in chosen]
        want, there = wanted_of([counts[at] for at in chosen], rest)
        answers.setdefault(want, set()).add(there)
    greatest = max(answers)
    (there,) = answers[greatest]
    return greatest, there


class NeedCounts(unittest.TestCase):
    def test_counts_are_taken(self):
        for counts in GOOD_COUNTS:
            with self.subTest(counts=counts):
                self.assertIsNone(need_counts(counts))

    def test_each_length_and_each_number_is_taken(self):
        for length in range(1, 11):
            for count in range(21):
                self.assertIsNone(need_counts([count] * length))

    def test_all_else_is_refused(self):
        for at, bad in enumerate(bad_counts()):
            with self.subTest(at=at), self.assertRaises(BadCounts):
                need_counts(bad)

    def test_a_list_in_itself_is_refused(self):
        loop = []
        loop.append(loop)
        with self.assertRaises(BadCounts):
            need_counts(loop)

    def test_what_is_handed_in_stays(self):
        for counts in GOOD_COUNTS:
            before = list(counts)
            need_counts(counts)
            self.assertEqual(counts, before)
        wrong = [3, 1, 21]
        with self.assertRaises(BadCounts):
            need_counts(wrong)
        self.assertEqual(wrong, [3, 1, 21])


class Wanted(unittest.TestCase):
    def test_told_by_hand(self):
        self.assertEqual(wanted([3, 3, 1, 1], 0), (0, 0))
        self.assertEqual(wanted([3, 3, 1, 1], 1), (3, 0 + 1 + 1 + 1))
        self.assertEqual(wanted([3, 3, 1, 1], 2), (6, 2 + 1 + 1))
        self.assertEqual(wanted([3, 3, 1, 1], 3), (7, 6 + 1))
        self.assertEqual(wanted([3, 3, 1, 1], 4), (8, 12))

    def test_edges(self):
        self.assertEqual(wanted([0], 0), (0, 0))
        self.assertEqual(wanted([0], 1), (0, 0))
        self.assertEqual(wanted([20], 0), (0, 0))
        self.assertEqual(wanted([20], 1), (20, 0))
        self.assertEqual(wanted([20] * 10, 1), (20, 9))
        self.assertEqual(wanted([20] * 10, 9), (180, 72 + 9))
        self.assertEqual(wanted([20] * 10, 10), (200, 90))
        self.assertEqual(wanted([0, 20, 0, 5], 1), (20, 1))

    def test_every_short_list(self):
        for length in range(1, 5):
            for counts in product(range(5), repeat=length):
                for many in range(length + 1):
                    told = wanted(list(counts), many)
                    self.assertEqual(told, wanted_by_trying(counts, many), (counts, many))

    def test_long_lists_with_like_counts(self):
        for counts in ([20, 0, 7, 7, 7, 3, 3, 12, 1, 7], [9] * 5 + [2] * 5, list(range(1, 20, 2))):
            for many in range(11):
                self.assertEqual(wanted(counts, many), wanted_by_trying(counts, many))

    def test_the_order_makes_no_difference(self):
        for many in range(6):
            told = {wanted(list(counts), many) for counts in permutations([4, 1, 4, 0, 2])}
            self.assertEqual(len(told), 1)

    def test_the_answer_is_a_tuple_of_two_whole_numbers(self):
        for counts in GOOD_COUNTS:
            for many in range(len(counts) + 1):
                told = wanted(counts, many)
                self.assertIs(type(told), tuple)
                self.assertEqual([type(part) for part in told], [int, int])

    def test_wrong_manys_are_refused(self):
        for counts in ([2], [1, 1], [20] * 10):
            for at, many in enumerate(bad_manys(len(counts))):
                with self.subTest(counts=counts, at=at), self.assertRaises(BadMany):
                    wanted(counts, many)

    def test_wrong_counts_are_refused(self):
        for at, bad in enumerate(bad_counts()):
            with self.subTest(at=at), self.assertRaises(BadCounts):
                wanted(bad, 0)

    def test_wrong_counts_are_refused_ahead_of_wrong_manys(self):
        for bad in ([], [0] * 11, (1, 2), "12", None, [21], [-1], [True]):
            for at, many in enumerate(bad_manys(2)):
                with self.subTest(bad=bad, at=at), self.assertRaises(BadCounts):
                    wanted(bad, many)

    def test_what_is_handed_in_stays(self):
        counts = [1, 4, 2, 0, 4, 3]
        for many in range(7):
            wanted(counts, many)
            self.assertEqual(counts, [1, 4, 2, 0, 4, 3])
        with self.assertRaises(BadMany):
            wanted(counts, 7)
        self.assertEqual(counts, [1, 4, 2, 0, 4, 3])

    def test_asked_again_the_same_is_told(self):
        counts = [5, 1, 3, 3]
        first = wanted(counts, 2)
        counts[1] = 20
        self.assertEqual(wanted(counts, 2), (25, 2 + 2 + 2))
        counts[1] = 1
        self.assertEqual(wanted(counts, 2), first)
        self.assertEqual(first, (8, 2 + 2 + 1))


if __name__ == "__main__":
    unittest.main()
