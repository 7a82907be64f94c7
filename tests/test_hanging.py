import unittest
from itertools import permutations, product

from odd_things import bad_counts, bad_webs
from small_webs import (
    all_ties, all_webs, counts_by_looking, is_exchange, left_by, pieces_by_walking, ring, webs_by_counts,
)
from tiecount.errors import BadCounts, BadWeb, NoWeb
from tiecount.hanging import hung, joining
from tiecount.telling import told


def row_of(points):
    """The ties of some points in a row."""
    return list(zip(points, points[1:]))


def why_apart(counts):
    """What point 10 tells of counts of which there is a web but none that hangs together, else None."""
    alone = [point for point, count in enumerate(counts) if count == 0]
    if len(counts) >= 2 and alone:
        return ("alone", alone[0])
    return ("few",) if sum(counts) < 2 * (len(counts) - 1) else None


class Hung(unittest.TestCase):
    def check_web(self, counts):
        """Told is a web with just these counts, rising, in one piece."""
        size = len(counts)
        word, ties = hung(counts)
        self.assertEqual(word, "web", counts)
        self.assertIs(type(ties), list)
        self.assertEqual(ties, [tie for tie in all_ties(size) if tie in ties], counts)
        self.assertEqual(counts_by_looking(size, ties), counts)
        self.assertEqual(pieces_by_walking(size, ties), [list(range(size))], counts)

    def test_what_is_no_counts(self):
        for at, bad in enumerate(bad_counts()):
            with self.subTest(at=at), self.assertRaises(BadCounts):
                hung(bad)

    def test_where_there_is_no_web_at_all(self):
        for counts, answer in (([1], ("odd",)), ([2, 1], ("odd",)), ([20] * 9 + [19], ("odd",)), ([2], ("many", 1)),
                               ([3, 3, 1, 1], ("many", 2)), ([4, 4, 4, 1, 1, 1, 1], ("many", 3))):
            self.assertEqual(hung(counts), answer)
            self.assertEqual(told(counts), answer)

    def test_no_web_is_told_ahead_of_what_keeps_webs_apart(self):
        self.assertEqual(hung([0, 1]), ("odd",))
        self.assertEqual(hung([1, 0, 0, 0]), ("odd",))
        self.assertEqual(hung([0, 2]), ("many", 1))
        self.assertEqual(hung([0, 3, 1]), ("many", 1))
        self.assertEqual(hung([4, 0, 0, 0, 0]), ("many", 1))

    def test_a_point_alone(self):
        self.assertEqual(hung([0, 0]), ("alone", 0))
        self.assertEqual(hung([2, 2, 2, 0]), ("alone", 3))
        self.assertEqual(hung([1, 0, 1]), ("alone", 1))
        self.assertEqual(hung([1, 1, 0, 0]), ("alone", 2))
        self.assertEqual(hung([8] * 9 + [0]), ("alone", 9))
        self.assertEqual(hung([0] * 10), ("alone", 0))

    def test_a_point_alone_is_told_ahead_of_few(self):
        self.assertEqual(hung([1, 1, 1, 1, 0]), ("alone", 4))

    def test_few_ties(self):
        self.assertEqual(hung([1, 1, 1, 1]), ("few",))
        self.assertEqual(hung([2, 1, 1, 1, 1]), ("few",))
        self.assertEqual(hung([1] * 10), ("few",))
        self.assertEqual(hung([7] + [1] * 9), ("few",))
        self.assertEqual(hung([2, 2, 2, 1, 1, 1, 1]), ("few",))

    def test_one_point(self):
        self.assertEqual(hung([0]), ("web", []))

    def test_just_enough_ties(self):
        self.assertEqual(hung([1, 1]), ("web", [(0, 1)]))
        self.assertEqual(hung([9] + [1] * 9), ("web", [(0, point) for point in range(1, 10)]))
        for counts in ([2, 2, 2, 1, 1], [2] * 8 + [1] * 2, [1, 2, 1, 2], [3, 1, 2, 1, 1], [1, 1, 2, 2, 2, 2]):
            self.check_web(counts)
        for counts in permutations([3, 2, 2, 1, 1, 1]):
            self.check_web(list(counts))

    def test_like_counts(self):
        for size in range(1, 11):
            for count in range(2, size):
                if size * count % 2 == 0:
                    self.check_web([count] * size)

    def test_every_list_of_up_to_five_points(self):
        for size in range(1, 6):
            webs = webs_by_counts(size)
            for counts in product(range(size + 2), repeat=size):
                answer = hung(list(counts))
                if counts not in webs:
                    self.assertEqual(answer, told(list(counts)), counts)
                    continue
                hanging = [ties for ties in webs[counts] if len(pieces_by_walking(size, ties)) == 1]
                if hanging:
                    self.assertEqual(answer[0], "web", counts)
                    self.assertIn(answer[1], hanging)
                else:
                    self.assertEqual(answer, why_apart(counts), counts)

    def test_ten_points(self):
        room = all_ties(10)
        for step in range(2, 45):
            for many in (7, 11, 13, 20, 40):
                counts = counts_by_looking(10, {room[at * step % 45] for at in range(many)})
                if why_apart(counts):
                    self.assertEqual(hung(counts), why_apart(counts), counts)
                else:
                    self.check_web(counts)

    def test_the_answer_is_a_tuple_with_a_list_of_tuples_of_whole_numbers(self):
        answer = hung([2, 2, 2, 2, 1, 1])
        self.assertIs(type(answer), tuple)
        self.assertEqual({type(tie) for tie in answer[1]}, {tuple})
        self.assertEqual({type(point) for tie in answer[1] for point in tie}, {int})
        for counts in ([1], [2], [0, 0], [1] * 4):
            self.assertIs(type(hung(counts)), tuple)

    def test_the_list_is_the_askers_own(self):
        for counts in ([1, 2, 1], [2, 2, 2, 2, 2, 2]):
            ties = hung(counts)[1]
            before = list(ties)
            ties[0] = None
            ties.append((7, 8))
            again = hung(counts)
            self.assertEqual(again, ("web", before))
            told(counts)
            hung([1, 1])
            self.assertEqual(ties, [None] + before[1:] + [(7, 8)])
            self.assertEqual(again, ("web", before))

    def test_what_is_handed_in_stays(self):
        for counts in ([1, 3, 2, 2], [2] * 6, [5, 1, 1, 1], [2, 1, 0], [1, 1, 0], [1, 1, 1, 1]):
            before = list(counts)
            hung(counts)
            self.assertEqual(counts, before)


class Joining(unittest.TestCase):
    def check_row(self, size, ties):
        """Each step is an exchange that leaves one piece fewer, to one piece."""
        steps = joining(size, ties)
        self.assertIs(type(steps), list)
        left = sorted(ties)
        many = len(pieces_by_walking(size, left))
        self.assertEqual(len(steps), many - 1)
        for step in steps:
            self.assertIs(type(step), tuple)
            self.assertTrue(is_exchange(left, step), (ties, steps))
            left = left_by(left, step)
            many -= 1
            self.assertEqual(len(pieces_by_walking(size, left)), many, (ties, steps))
        self.assertEqual(many, 1)

    def test_what_is_no_web(self):
        for at, (size, ties) in enumerate(bad_webs()):
            with self.subTest(at=at), self.assertRaises(BadWeb):
                joining(size, ties)

    def test_counts_that_let_none_hang_together(self):
        for size, ties in ((2, []), (3, [(0, 1)]), (4, ring([0, 1, 2])), (10, []), (4, [(0, 1), (2, 3)]),
                           (10, ring(range(9))), (5, [(0, 1), (0, 2), (3, 4)]), (10, [(0, 9)] + ring(range(1, 8)))):
            with self.subTest(size=size, ties=ties), self.assertRaises(NoWeb):
                joining(size, ties)

    def test_webs_of_one_piece(self):
        self.assertEqual(joining(1, []), [])
        self.assertEqual(joining(2, [(0, 1)]), [])
        for size in range(1, 11):
            self.assertEqual(joining(size, row_of(range(size))), [])
            self.assertEqual(joining(size, all_ties(size)), [])

    def test_a_ring_and_a_row(self):
        self.check_row(5, ring([0, 1, 2]) + [(3, 4)])
        self.check_row(5, ring([2, 3, 4]) + [(0, 1)])
        self.check_row(6, ring([0, 2, 4]) + row_of([1, 3, 5]))
        self.check_row(10, ring([7, 8, 9]) + row_of(range(7)))

    def test_two_rings(self):
        self.check_row(6, ring([0, 1, 2]) + ring([3, 4, 5]))
        self.check_row(6, ring([0, 3, 5]) + ring([1, 2, 4]))
        self.check_row(10, ring([0, 2, 4, 6, 8]) + ring([1, 3, 5, 7, 9]))

    def test_many_pieces(self):
        self.check_row(9, ring([0, 1, 2]) + ring([3, 4, 5]) + ring([6, 7, 8]))
        self.check_row(10, ring([0, 1, 2]) + ring([3, 4, 5]) + ring([6, 7, 8, 9]))
        self.check_row(8, all_ties(4) + [(4, 5), (6, 7)])
        self.check_row(10, all_ties(4) + [(4, 5), (6, 7), (8, 9)])
        self.check_row(10, [(0, 1), (2, 3), (4, 5)] + [(low + 6, high + 6) for low, high in all_ties(4)])
        self.check_row(10, [(0, 2), (1, 4), (6, 8), (3, 5), (3, 7), (3, 9), (5, 7), (5, 9), (7, 9)])

    def test_the_order_of_the_ties_makes_no_difference(self):
        for ties in permutations(ring([1, 2, 4]) + [(0, 3)]):
            self.check_row(5, list(ties))

    def test_every_web_of_up_to_five_points(self):
        for size in range(1, 6):
            for webs in webs_by_counts(size).values():
                hanging = any(len(pieces_by_walking(size, ties)) == 1 for ties in webs)
                for ties in webs:
                    if hanging:
                        self.check_row(size, ties)
                    else:
                        self.assertRaises(NoWeb, joining, size, ties)

    def test_webs_of_six_points_in_pieces(self):
        for ties in all_webs(6):
            if len(ties) == 6 and not why_apart(counts_by_looking(6, ties)):
                self.check_row(6, ties)

    def test_the_list_is_the_askers_own(self):
        ties = ring([0, 1, 2]) + ring([3, 4, 5])
        steps = joining(6, ties)
        first = list(steps)
        steps[0] = None
        steps.append(1)
        again = joining(6, ties)
        self.assertEqual(again, first)
        nothing = joining(2, [(0, 1)])
        nothing.append(1)
        self.assertEqual(joining(2, [(0, 1)]), [])
        self.assertEqual(steps, [None, 1])
        self.assertEqual(again, first)

    def test_what_is_handed_in_stays(self):
        ties = [(3, 4), (0, 2), (1, 2), (0, 1)]
        joining(5, ties)
        self.assertEqual(ties, [(3, 4), (0, 2), (1, 2), (0, 1)])
        apart = [(2, 3), (0, 1)]
        self.assertRaises(NoWeb, joining, 4, apart)
        self.assertEqual(apart, [(2, 3), (0, 1)])


if __name__ == "__main__":
    unittest.main()
