import unittest
from itertools import permutations, product

from odd_things import bad_counts
from small_webs import all_ties, counts_by_looking, webs_by_counts
from tiecount.counts import wanted
from tiecount.errors import BadCounts
from tiecount.telling import told


def expected_refusal(counts):
    """What point 5 tells of counts of which no web is, else None."""
    if sum(counts) % 2:
        return ("odd",)
    too_many = [many for many in range(len(counts) + 1) if wanted(counts, many)[0] > wanted(counts, many)[1]]
    return ("many", too_many[0]) if too_many else None


class Told(unittest.TestCase):
    def check_web(self, counts):
        """Told is a web with just these counts, its ties rising, each once."""
        word, ties = told(counts)
        self.assertEqual(word, "web")
        self.assertIs(type(ties), list)
        self.assertEqual(ties, [tie for tie in all_ties(len(counts)) if tie in ties], counts)
        self.assertEqual(counts_by_looking(len(counts), ties), counts)

    def test_what_is_no_counts(self):
        for at, bad in enumerate(bad_counts()):
            with self.subTest(at=at), self.assertRaises(BadCounts):
                told(bad)

    def test_no_counts_are_refused_ahead_of_an_odd_sum(self):
        for bad in ([21], [1] * 11, [1, -2], [True], [1, 2, False], (1,)):
            with self.subTest(bad=bad), self.assertRaises(BadCounts):
                told(bad)

    def test_an_odd_sum(self):
        for counts in ([1], [19], [0, 1], [2, 2, 1], [20] * 9 + [19], [3, 3, 3], [9] * 9 + [0]):
            self.assertEqual(told(counts), ("odd",), counts)

    def test_an_odd_sum_is_told_ahead_of_too_many(self):
        self.assertEqual(told([20, 1]), ("odd",))
        self.assertEqual(told([20] * 3 + [19]), ("odd",))

    def test_the_greatest_many_want_too_much(self):
        self.assertEqual(told([2]), ("many", 1))
        self.assertEqual(told([20] * 10), ("many", 1))
        self.assertEqual(told([2, 0]), ("many", 1))
        self.assertEqual(told([0, 1, 3]), ("many", 1))
        self.assertEqual(told([3, 3, 1, 1]), ("many", 2))
        self.assertEqual(told([1, 3, 1, 3]), ("many", 2))
        self.assertEqual(told([4, 4, 4, 1, 1]), ("many", 2))
        self.assertEqual(told([9, 9, 9, 9, 3, 3, 3, 3, 3, 3]), ("many", 4))
        self.assertEqual(told([4, 4, 4, 1, 1, 1, 1]), ("many", 3))

    def test_webs_of_one_and_two_points(self):
        self.assertEqual(told([0]), ("web", []))
        self.assertEqual(told([0, 0]), ("web", []))
        self.assertEqual(told([1, 1]), ("web", [(0, 1)]))

    def test_counts_of_one_web_only(self):
        self.assertEqual(told([3, 1, 1, 1]), ("web", [(0, 1), (0, 2), (0, 3)]))
        self.assertEqual(told([1, 1, 3, 1]), ("web", [(0, 2), (1, 2), (2, 3)]))
        self.assertEqual(told([0, 2, 0, 2, 2]), ("web", [(1, 3), (1, 4), (3, 4)]))
        for size in range(1, 11):
            self.assertEqual(told([0] * size), ("web", []))
            self.assertEqual(told([size - 1] * size), ("web", all_ties(size)))

    def test_like_counts(self):
        for size in range(1, 11):
            for count in range(21):
                if size * count % 2:
                    self.assertEqual(told([count] * size), ("odd",))
                elif count < size:
                    self.check_web([count] * size)
                else:
                    self.assertEqual(told([count] * size), ("many", 1))

    def test_ten_points(self):
        for counts in ([9, 1, 1, 1, 1, 1, 1, 1, 1, 1], [0, 9, 8, 7, 6, 5, 4, 3, 2, 1], [9, 8, 7, 6, 5, 5, 4, 3, 2, 1],
                       [1, 2, 3, 4, 5, 5, 6, 7, 8, 9], [0, 0, 0, 0, 3, 3, 3, 3, 0, 0], [5, 1, 4, 2, 3, 3, 2, 4, 1, 5],
                       [9, 9, 9, 9, 9, 5, 5, 5, 5, 5], [1, 1, 9, 2, 2, 3, 3, 4, 4, 5]):
            refusal = expected_refusal(counts)
            if refusal:
                self.assertEqual(told(counts), refusal, counts)
            else:
                self.check_web(counts)

    def test_counts_of_webs_of_ten_points(self):
        room = all_ties(10)
        for step in range(2, 45):
            for many in (5, 12, 20, 33, 44):
                ties = {room[at * step % 45] for at in range(many)}
                self.check_web(counts_by_looking(10, ties))

    def test_the_same_counts_in_another_order(self):
        for counts in permutations([0, 1, 2, 2, 3]):
            self.check_web(list(counts))
        for counts in permutations([4, 4, 4, 1, 1]):
            self.assertEqual(told(list(counts)), ("many", 2))

    def test_every_list_of_up_to_five_points(self):
        for size in range(1, 6):
            webs = webs_by_counts(size)
            for counts in product(range(size + 2), repeat=size):
                if counts in webs:
                    self.assertIsNone(expected_refusal(list(counts)))
                    word, ties = told(list(counts))
                    self.assertEqual(word, "web")
                    self.assertIn(ties, webs[counts])
                else:
                    self.assertEqual(told(list(counts)), expected_refusal(list(counts)), counts)

    def test_the_answer_is_a_tuple_with_a_list_of_tuples_of_whole_numbers(self):
        answer = told([2, 1, 1])
        self.assertIs(type(answer), tuple)
        self.assertEqual({type(tie) for tie in answer[1]}, {tuple})
        self.assertEqual({type(point) for tie in answer[1] for point in tie}, {int})
        for counts in ([1], [2]):
            self.assertIs(type(told(counts)), tuple)

    def test_the_list_is_the_askers_own(self):
        counts = [1, 2, 1]
        ties = told(counts)[1]
        ties[0] = None
        ties.append((7, 8))
        again = told(counts)
        self.assertEqual(again, ("web", [(0, 1), (1, 2)]))
        told([1, 1, 2])
        told([0])
        self.assertEqual(ties, [None, (1, 2), (7, 8)])
        self.assertEqual(again, ("web", [(0, 1), (1, 2)]))

    def test_what_is_handed_in_stays(self):
        for counts in ([1, 3, 2, 2, 0], [5, 1, 1, 1], [2, 1, 0], [3, 21]):
            before = list(counts)
            try:
                told(counts)
            except BadCounts:
                pass
            self.assertEqual(counts, before)

    def test_changed_counts_are_told_anew(self):
        counts = [1, 1, 0]
        self.assertEqual(told(counts), ("web", [(0, 1)]))
        counts[2] = 2
        self.assertEqual(told(counts), ("web", [(0, 2), (1, 2)]))
        counts[2] = 1
        self.assertEqual(told(counts), ("odd",))


if __name__ == "__main__":
    unittest.main()
