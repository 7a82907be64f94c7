import unittest

from odd_things import bad_sizes, bad_ties, odd_things
from small_webs import all_ties, all_webs, counts_by_looking, pieces_by_walking
from tiecount.errors import BadWeb
from tiecount.webs import counts_of, need_web, pieces

ASKED = [need_web, counts_of, pieces]


class WhatIsRefused(unittest.TestCase):
    def test_wrong_sizes(self):
        for ask in ASKED:
            for at, size in enumerate(bad_sizes()):
                with self.subTest(ask=ask.__name__, at=at), self.assertRaises(BadWeb):
                    ask(size, [])

    def test_wrong_sizes_with_ties_that_would_fit(self):
        for ask in ASKED:
            for size in (11, "3", None):
                with self.subTest(ask=ask.__name__, size=size), self.assertRaises(BadWeb):
                    ask(size, [(0, 1)])

    def test_wrong_ties(self):
        for ask in ASKED:
            for at, tie in enumerate(bad_ties()):
                for ties in ([tie], [(0, 1), tie], [tie, (2, 3)], [(0, 3), tie, (1, 3)]):
                    with self.subTest(ask=ask.__name__, at=at), self.assertRaises(BadWeb):
                        ask(4, ties)

    def test_a_tie_twice(self):
        for ask in ASKED:
            for ties in ([(0, 1), (0, 1)], [(0, 1), (2, 3), (0, 1)], [(1, 2), (0, 3), (0, 3)]):
                with self.subTest(ask=ask.__name__, ties=ties), self.assertRaises(BadWeb):
                    ask(4, ties)

    def test_a_tie_and_the_same_one_turned_about(self):
        for ask in ASKED:
            with self.subTest(ask=ask.__name__), self.assertRaises(BadWeb):
                ask(4, [(0, 1), (1, 0)])

    def test_ties_of_points_that_there_are_not(self):
        for ask in ASKED:
            for size in range(1, 11):
                for tie in ((0, size), (size - 1, size), (-1, 0), (-1, size - 1)):
                    with self.subTest(ask=ask.__name__, size=size, tie=tie), self.assertRaises(BadWeb):
                        ask(size, [tie])

    def test_ties_that_are_no_list(self):
        for ask in ASKED:
            others = odd_things() + [(), ((0, 1),), {(0, 1)}, {(0, 1): True}, iter([(0, 1)]), 0, 1, (0, 1)]
            for at, ties in enumerate(others):
                with self.subTest(ask=ask.__name__, at=at), self.assertRaises(BadWeb):
                    ask(4, ties)

    def test_both_wrong(self):
        for ask in ASKED:
            with self.subTest(ask=ask.__name__), self.assertRaises(BadWeb):
                ask(None, None)

    def test_what_is_refused_stays(self):
        for ask in ASKED:
            ties = [(2, 3), (0, 1), (1, 0)]
            with self.assertRaises(BadWeb):
                ask(4, ties)
            self.assertEqual(ties, [(2, 3), (0, 1), (1, 0)])


class NeedWeb(unittest.TestCase):
    def test_every_small_web_is_taken(self):
        for size in range(1, 5):
            for ties in all_webs(size):
                self.assertIsNone(need_web(size, ties))
                self.assertIsNone(need_web(size, ties[::-1]))

    def test_each_size_without_ties_and_with_all(self):
        for size in range(1, 11):
            self.assertIsNone(need_web(size, []))
            self.assertIsNone(need_web(size, all_ties(size)))
            self.assertIsNone(need_web(size, all_ties(size)[::-1]))

    def test_ties_in_any_order(self):
        self.assertIsNone(need_web(5, [(3, 4), (0, 2), (1, 2), (0, 1)]))

    def test_what_is_handed_in_stays(self):
        ties = [(3, 4), (0, 2), (1, 2), (0, 1)]
        need_web(5, ties)
        self.assertEqual(ties, [(3, 4), (0, 2), (1, 2), (0, 1)])


class CountsOf(unittest.TestCase):
    def test_told_by_hand(self):
        self.assertEqual(counts_of(1, []), [0])
        self.assertEqual(counts_of(3, []), [0, 0, 0])
        self.assertEqual(counts_of(2, [(0, 1)]), [1, 1])
        self.assertEqual(counts_of(4, [(0, 1), (1, 2), (2, 3)]), [1, 2, 2, 1])
        self.assertEqual(counts_of(5, [(0, 4), (0, 2), (1, 3)]), [2, 1, 1, 1, 1])
        self.assertEqual(counts_of(10, [(0, 9)]), [1] + [0] * 8 + [1])
        self.assertEqual(counts_of(10, all_ties(10)), [9] * 10)

    def test_every_small_web(self):
        for size in range(1, 6):
            for ties in all_webs(size):
                expected = counts_by_looking(size, ties)
                self.assertEqual(counts_of(size, ties), expected, (size, ties))
                self.assertEqual(counts_of(size, ties[::-1]), expected, (size, ties))

    def test_the_answer_is_a_list_of_whole_numbers(self):
        told = counts_of(3, [(0, 2)])
        self.assertIs(type(told), list)
        self.assertEqual([type(count) for count in told], [int] * 3)

    def test_the_list_is_the_askers_own(self):
        ties = [(0, 1), (1, 2)]
        told = counts_of(3, ties)
        told[0] = 17
        told.append(5)
        again = counts_of(3, ties)
        self.assertEqual(again, [1, 2, 1])
        self.assertIsNot(again, told)
        counts_of(2, [(0, 1)])
        pieces(3, ties)
        self.assertEqual(told, [17, 2, 1, 5])
        self.assertEqual(again, [1, 2, 1])

    def test_what_is_handed_in_stays(self):
        ties = [(3, 4), (0, 2), (1, 2), (0, 1)]
        counts_of(5, ties)
        self.assertEqual(ties, [(3, 4), (0, 2), (1, 2), (0, 1)])

    def test_a_changed_web_is_told_anew(self):
        ties = [(0, 1)]
        self.assertEqual(counts_of(3, ties), [1, 1, 0])
        ties.append((1, 2))
        self.assertEqual(counts_of(3, ties), [1, 2, 1])
        self.assertEqual(counts_of(4, ties), [1, 2, 1, 0])


class Pieces(unittest.TestCase):
    def test_without_ties(self):
        for size in range(1, 11):
            self.assertEqual(pieces(size, []), [[point] for point in range(size)])

    def test_a_row_of_points(self):
        for size in range(1, 11):
            row = [(point, point + 1) for point in range(size - 1)]
            self.assertEqual(pieces(size, row), [list(range(size))])
            self.assertEqual(pieces(size, row[::-1]), [list(range(size))])

    def test_several_pieces(self):
        self.assertEqual(pieces(5, [(0, 3), (1, 4)]), [[0, 3], [1, 4], [2]])
        self.assertEqual(pieces(6, [(4, 5), (0, 5), (1, 2)]), [[0, 4, 5], [1, 2], [3]])
        self.assertEqual(pieces(6, [(0, 1), (2, 3), (4, 5), (1, 4)]), [[0, 1, 4, 5], [2, 3]])
        self.assertEqual(pieces(10, [(0, 9), (8, 9), (1, 7), (7, 8)]),
                         [[0, 1, 7, 8, 9], [2], [3], [4], [5], [6]])
        self.assertEqual(pieces(10, [(5, 9), (0, 5), (1, 6), (2, 6), (2, 9)]),
                         [[0, 1, 2, 5, 6, 9], [3], [4], [7], [8]])

    def test_all_ties(self):
        for size in range(1, 11):
            self.assertEqual(pieces(size, all_ties(size)), [list(range(size))])

    def test_every_small_web(self):
        for size in range(1, 6):
            for ties in all_webs(size):
                expected = pieces_by_walking(size, ties)
                self.assertEqual(pieces(size, ties), expected, (size, ties))
                self.assertEqual(pieces(size, ties[::-1]), expected, (size, ties))

    def test_webs_of_ten_points(self):
        for step in range(1, 45):
            ties = [all_ties(10)[at * step % 45] for at in range(7)]
            ties = list(dict.fromkeys(ties))
            self.assertEqual(pieces(10, ties), pieces_by_walking(10, ties), ties)

    def test_the_answer_is_a_list_of_lists_of_whole_numbers(self):
        told = pieces(4, [(1, 3)])
        self.assertIs(type(told), list)
        self.assertEqual([type(piece) for piece in told], [list] * 3)
        self.assertEqual([type(point) for piece in told for point in piece], [int] * 4)

    def test_the_lists_are_the_askers_own(self):
        ties = [(0, 1), (2, 3)]
        told = pieces(5, ties)
        told[0].append(9)
        told[2].clear()
        told.append([7])
        again = pieces(5, ties)
        self.assertEqual(again, [[0, 1], [2, 3], [4]])
        pieces(2, [])
        counts_of(5, ties)
        self.assertEqual(told, [[0, 1, 9], [2, 3], [], [7]])
        self.assertEqual(again, [[0, 1], [2, 3], [4]])

    def test_no_list_is_told_twice(self):
        told = pieces(5, [(0, 1)])
        for at, piece in enumerate(told):
            for other in told[at + 1:]:
                self.assertIsNot(piece, other)

    def test_what_is_handed_in_stays(self):
        ties = [(3, 4), (0, 2), (1, 2), (0, 1)]
        pieces(5, ties)
        self.assertEqual(ties, [(3, 4), (0, 2), (1, 2), (0, 1)])

    def test_a_changed_web_is_told_anew(self):
        ties = [(0, 1)]
        self.assertEqual(pieces(3, ties), [[0, 1], [2]])
        ties.append((1, 2))
        self.assertEqual(pieces(3, ties), [[0, 1, 2]])
        self.assertEqual(pieces(4, ties), [[0, 1, 2], [3]])


if __name__ == "__main__":
    unittest.main()
