import unittest
from itertools import combinations, permutations

from odd_things import bad_webs
from small_webs import all_ties, counts_by_looking, is_exchange, left_by, ring, tie_of, webs_by_counts
from tiecount.errors import BadWeb, Unlike
from tiecount.ways import way

# A ring of eight points with every second tie in the one web, the other ties of it in the other one.
ODD_RING = [(0, 1), (2, 3), (4, 5), (6, 7)]
EVEN_RING = [(0, 7), (1, 2), (3, 4), (5, 6)]
# Ties of both webs because of which no exchange of the first web alone comes nearer to the other one.
SHARED = [(0, 3), (2, 5), (4, 7), (1, 6)]
BESIDE = [(0, 2), (0, 4), (0, 6), (1, 3), (1, 5), (1, 7), (2, 4), (2, 6), (3, 5), (3, 7), (4, 6), (5, 7)]


class Way(unittest.TestCase):
    def check_way(self, size, one, other):
        """Each step is an exchange, the last leaves the other web, and there are few enough."""
        told = way(size, one, other)
        self.assertIs(type(told), list)
        left = sorted(one)
        for step in told:
            self.assertIs(type(step), tuple)
            self.assertTrue(is_exchange(left, step), (one, other, told))
            left = left_by(left, step)
        self.assertEqual(left, sorted(other))
        self.assertLessEqual(len(told), len(set(one) - set(other)), (one, other))

    def check_both_ways(self, size, one, other):
        self.check_way(size, one, other)
        self.check_way(size, other, one)

    def test_the_same_web_twice(self):
        self.assertEqual(way(1, [], []), [])
        for size in range(1, 11):
            self.assertEqual(way(size, all_ties(size), all_ties(size)), [])
            self.assertEqual(way(size, all_ties(size), all_ties(size)[::-1]), [])
        ties = [(0, 1), (2, 3)]
        self.assertEqual(way(4, ties, ties), [])
        self.assertEqual(way(4, ties, ties[::-1]), [])

    def test_a_web_and_another_one(self):
        self.assertIn(way(4, [(0, 1), (2, 3)], [(0, 2), (1, 3)]),
                      [[(0, 1, 2, 3)], [(1, 0, 3, 2)], [(2, 3, 0, 1)], [(3, 2, 1, 0)]])
        self.check_both_ways(4, [(0, 1), (2, 3)], [(1, 2), (0, 3)])
        self.check_both_ways(5, [(0, 1), (1, 2), (3, 4)], [(0, 3), (1, 4), (1, 2)])

    def test_one_tie_more_than_two_exchanges_change(self):
        self.check_both_ways(6, [(0, 1), (2, 3), (4, 5)], [(1, 2), (3, 4), (0, 5)])
        self.check_both_ways(6, ring([0, 1, 2]) + ring([3, 4, 5]), ring(range(6)))

    def test_all_pairs_of_webs_of_up_to_five_points(self):
        for size in range(1, 6):
            for webs in webs_by_counts(size).values():
                for one in webs:
                    for other in webs:
                        self.check_way(size, one, other)

    def test_ties_in_any_order(self):
        for one in permutations([(0, 1), (2, 3), (0, 4), (1, 5)]):
            self.check_both_ways(6, list(one), [(2, 5), (1, 4), (0, 1), (0, 3)])

    def test_where_no_exchange_of_one_of_the_webs_alone_comes_nearer(self):
        self.check_both_ways(8, ODD_RING + SHARED, EVEN_RING + SHARED)
        for many in (1, 2, 3, 11, 12):
            for beside in combinations(BESIDE, many):
                self.check_both_ways(8, ODD_RING + SHARED + list(beside), EVEN_RING + SHARED + list(beside))

    def test_where_several_exchanges_of_the_other_web_are_needed(self):
        around = [tie_of(at, (at + 1) % 10) for at in range(10)]
        shared = [tie_of(at, (at + 3) % 10) for at in range(0, 10, 2)]
        unshared = [tie_of(at, (at + 3) % 10) for at in range(1, 10, 2)]
        beside = [tie for tie in all_ties(10) if tie not in around + shared + unshared]
        self.check_both_ways(10, around[0::2] + shared + [(0, 5), (3, 8), (5, 9)],
                             around[1::2] + shared + [(0, 5), (3, 8), (5, 9)])
        for step in range(1, 25):
            for many in range(1, 25, 4):
                more = sorted({beside[at * step % 25] for at in range(many)})
                self.check_both_ways(10, around[0::2] + shared + more, around[1::2] + shared + more)

    def test_rings_of_ten_points(self):
        rings = [ring([at * step % 10 for at in range(10)]) for step in (1, 3)]
        rings += [ring([0, 5, 1, 6, 2]) + ring([3, 8, 4, 9, 7]), ring([0, 9, 4]) + ring([5, 6, 7, 8, 1, 2, 3])]
        for one in rings:
            for other in rings:
                self.check_way(10, one, other)
                self.check_way(10, [tie for tie in all_ties(10) if tie not in one],
                               [tie for tie in all_ties(10) if tie not in other])

    def test_webs_of_ten_points_with_five_ties_each(self):
        outer, inner = ring(range(5)), ring([5, 7, 9, 6, 8])
        petersen = outer + inner + [(point, point + 5) for point in range(5)]
        for shift in range(1, 10):
            turned = [tie_of((low * 3 + shift) % 10, (high * 3 + shift) % 10) for low, high in petersen]
            self.check_both_ways(10, petersen, turned)

    def test_what_is_no_web(self):
        for at, (size, ties) in enumerate(bad_webs()):
            with self.subTest(at=at):
                self.assertRaises(BadWeb, way, size, ties, [])
                self.assertRaises(BadWeb, way, size, [], ties)
                self.assertRaises(BadWeb, way, size, ties, [(0, 1)])
                self.assertRaises(BadWeb, way, size, [(0, 1)], ties)
                self.assertRaises(BadWeb, way, size, ties, ties)

    def test_webs_of_unlike_counts(self):
        for one, other in (([], [(0, 1)]), ([(0, 1)], [(0, 2)]), ([(0, 1)], [(2, 3)]), ([(0, 1), (1, 2)], [(0, 1)]),
                           ([(0, 1), (1, 2)], [(0, 2), (2, 3)]), ([(0, 1), (2, 3)], [(0, 1), (0, 2)])):
            with self.subTest(one=one, other=other):
                self.assertRaises(Unlike, way, 4, one, other)
                self.assertRaises(Unlike, way, 4, other, one)

    def test_the_same_counts_of_other_points_are_unlike(self):
        self.assertRaises(Unlike, way, 3, [(0, 1), (0, 2)], [(0, 1), (1, 2)])

    def test_all_pairs_of_unlike_counts_of_up_to_four_points(self):
        for size in range(1, 5):
            webs = [web for webs in webs_by_counts(size).values() for web in webs]
            for one in webs:
                for other in webs:
                    if counts_by_looking(size, one) != counts_by_looking(size, other):
                        self.assertRaises(Unlike, way, size, one, other)

    def test_no_web_is_refused_ahead_of_unlike_counts(self):
        for bad in ([(1, 0)], [(0, 4)], ((0, 1),), None, [(0, 1), (0, 1)]):
            self.assertRaises(BadWeb, way, 4, bad, [(2, 3)])
            self.assertRaises(BadWeb, way, 4, [(2, 3)], bad)

    def test_the_list_is_the_askers_own(self):
        one, other = [(2, 3), (0, 1)], [(1, 3), (0, 2)]
        told = way(4, one, other)
        first = list(told)
        told.append(None)
        told[0] = (9, 9, 9, 9)
        again = way(4, one, other)
        self.assertEqual(again, first)
        way(4, other, one)
        nothing = way(4, one, one)
        nothing.append(1)
        self.assertEqual(way(4, one, one), [])
        self.assertEqual(told, [(9, 9, 9, 9), None])
        self.assertEqual(again, first)

    def test_what_is_handed_in_stays(self):
        one, other = [(2, 3), (0, 1)], [(1, 3), (0, 2)]
        way(4, one, other)
        self.assertEqual((one, other), ([(2, 3), (0, 1)], [(1, 3), (0, 2)]))
        self.assertRaises(Unlike, way, 4, one, other + [(0, 1)])
        self.assertEqual((one, other), ([(2, 3), (0, 1)], [(1, 3), (0, 2)]))

    def test_the_points_of_the_steps_are_whole_numbers(self):
        told = way(6, ring(range(6)), ring([0, 1, 2]) + ring([3, 4, 5]))
        self.assertEqual({type(point) for step in told for point in step}, {int})


if __name__ == "__main__":
    unittest.main()
