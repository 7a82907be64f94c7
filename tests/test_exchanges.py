import unittest
from itertools import permutations, product

from odd_things import bad_webs, odd_things
from small_webs import all_ties, all_webs, counts_by_looking, four_forms, is_exchange, left_by, ring
from tiecount.errors import BadExchange, BadWeb
from tiecount.exchanges import done, exchanges, may

MIXED_UP = [(4, 5), (0, 3), (2, 5), (0, 1), (1, 4)]


def no_exchanges():
    """A new list of things that are no exchange of the web of (0, 1), (2, 3) and four points."""
    bad = odd_things() + [
        0, 1, (), (0,), (0, 1), (0, 1, 2), (0, 1, 2, 3, 0), (0, 1, 2, 3, 4), ((0, 1), (2, 3)), ((0, 1, 2, 3),),
        [], [0, 1, 2, 3], [(0, 1), (2, 3)], [(0, 1, 2, 3)], "0123", b"\x00\x01\x02\x03", {0: 1, 2: 3}, {0, 1, 2, 3},
        iter((0, 1, 2, 3)), range(4), ("0", "1", "2", "3"), (None, None, None, None),
        (0, 1, 2, -1), (-4, 1, 2, 3), (-4, -3, -2, -1), (4, 1, 2, 3), (0, 1, 2, 4), (0, 1, 4, 5), (0, 1, 2, 10 ** 30),
        (0, 1, 0, 1), (0, 1, 1, 0), (0, 0, 2, 3), (0, 1, 2, 2), (0, 1, 0, 3), (0, 0, 0, 0),
        (0, 2, 1, 3), (0, 3, 1, 2), (0, 2, 3, 1), (1, 2, 0, 3),
        (False, True, 2, 3), (0, True, 2, 3), (False, 1, 2, 3), (2, 3, False, True), (2, 3, 0, True),
    ]
    for wrong in odd_things() + [(0,), [0], []]:
        bad += [(wrong, 1, 2, 3), (0, wrong, 2, 3), (0, 1, wrong, 3), (0, 1, 2, wrong), (wrong,) * 4]
    return bad


class WhatIsRefused(unittest.TestCase):
    def test_what_is_no_web(self):
        for at, (size, ties) in enumerate(bad_webs()):
            with self.subTest(at=at):
                with self.assertRaises(BadWeb):
                    may(size, ties, (0, 1, 2, 3))
                with self.assertRaises(BadWeb):
                    done(size, ties, (0, 1, 2, 3))
                with self.assertRaises(BadWeb):
                    exchanges(size, ties)

    def test_no_web_is_refused_ahead_of_no_exchange(self):
        for at, thing in enumerate(no_exchanges()):
            for size, ties in ((0, []), (4, [(1, 0)]), (4, ((0, 1), (2, 3))), (None, None)):
                with self.subTest(at=at):
                    with self.assertRaises(BadWeb):
                        may(size, ties, thing)
                    with self.assertRaises(BadWeb):
                        done(size, ties, thing)

    def test_what_is_no_exchange(self):
        for at, thing in enumerate(no_exchanges()):
            with self.subTest(at=at), self.assertRaises(BadExchange):
                done(4, [(0, 1), (2, 3)], thing)

    def test_what_is_refused_stays(self):
        ties = [(2, 3), (0, 1)]
        wrong = [2, 1, 0, 3]
        with self.assertRaises(BadExchange):
            done(4, ties, wrong)
        self.assertEqual((ties, wrong), ([(2, 3), (0, 1)], [2, 1, 0, 3]))


class May(unittest.TestCase):
    def test_two_ties_for_two_others(self):
        for ties in ([(0, 1), (2, 3)], [(2, 3), (0, 1)]):
            for row in four_forms((0, 1, 2, 3)) + four_forms((0, 1, 3, 2)):
                self.assertIs(may(4, ties, row), True, row)

    def test_a_and_b_are_tied(self):
        self.assertIs(may(4, [(2, 3)], (0, 1, 2, 3)), False)

    def test_c_and_d_are_tied(self):
        self.assertIs(may(4, [(0, 1)], (0, 1, 2, 3)), False)

    def test_a_and_c_are_not_tied(self):
        self.assertIs(may(4, [(0, 1), (2, 3), (0, 2)], (0, 1, 2, 3)), False)

    def test_b_and_d_are_not_tied(self):
        self.assertIs(may(4, [(0, 1), (2, 3), (1, 3)], (0, 1, 2, 3)), False)

    def test_the_other_two_pairs_do_not_matter(self):
        for more in ([], [(0, 3)], [(1, 2)], [(0, 3), (1, 2)]):
            self.assertIs(may(4, [(0, 1), (2, 3)] + more, (0, 1, 2, 3)), True)

    def test_all_four_points_are_unlike(self):
        ties = [(0, 1), (0, 2)]
        for row in ((0, 1, 0, 2), (0, 2, 0, 1), (1, 0, 2, 0), (2, 0, 1, 0), (0, 1, 0, 1), (1, 0, 1, 0)):
            self.assertIs(may(4, ties, row), False, row)

    def test_what_is_none(self):
        for at, thing in enumerate(no_exchanges()):
            with self.subTest(at=at):
                self.assertIs(may(4, [(0, 1), (2, 3)], thing), False)

    def test_points_that_there_are_not(self):
        for size in range(4, 11):
            for point in (-1, -size, size, size + 1):
                for at in range(4):
                    row = [0, size - 1, 1, size - 2]
                    ties = [(0, size - 1), (1, size - 2)]
                    self.assertIs(may(size, ties, tuple(row)), True)
                    row[at] = point
                    self.assertIs(may(size, ties, tuple(row)), False, (size, row))

    def test_every_row_of_points_of_small_webs(self):
        for size in range(1, 5):
            rows = list(product(range(-1, size + 1), repeat=4))
            for ties in all_webs(size):
                for row in rows:
                    expected = min(row) >= 0 and max(row) < size and is_exchange(ties, row)
                    self.assertIs(may(size, ties, row), expected, (size, ties, row))

    def test_every_row_of_unlike_points_of_webs_of_five(self):
        for ties in all_webs(5):
            for row in permutations(range(5), 4):
                self.assertIs(may(5, ties, row), is_exchange(ties, row), (ties, row))

    def test_what_is_handed_in_stays(self):
        ties = list(MIXED_UP)
        thing = [0, 1, 2, 5]
        may(6, ties, thing)
        may(6, ties, tuple(thing))
        self.assertEqual((ties, thing), (MIXED_UP, [0, 1, 2, 5]))


class Done(unittest.TestCase):
    def test_told_by_hand(self):
        self.assertEqual(done(4, [(0, 1), (2, 3)], (0, 1, 2, 3)), [(0, 2), (1, 3)])
        self.assertEqual(done(4, [(0, 1), (2, 3)], (0, 1, 3, 2)), [(0, 3), (1, 2)])
        self.assertEqual(done(5, [(2, 3), (1, 4), (0, 4)], (4, 0, 3, 2)), [(0, 2), (1, 4), (3, 4)])
        self.assertEqual(done(5, [(1, 2), (2, 4), (0, 3)], (4, 2, 0, 3)), [(0, 4), (1, 2), (2, 3)])

    def test_every_exchange_of_small_webs(self):
        for size in range(4, 6):
            for ties in all_webs(size):
                for row in permutations(range(size), 4):
                    if is_exchange(ties, row):
                        self.assertEqual(done(size, ties, row), left_by(ties, row), (ties, row))
                    else:
                        self.assertRaises(BadExchange, done, size, ties, row)

    def test_all_counts_stay(self):
        for ties in all_webs(5):
            for row in exchanges(5, ties):
                self.assertEqual(counts_by_looking(5, done(5, ties, row)), counts_by_looking(5, ties))

    def test_the_four_forms_do_the_same(self):
        for ties in all_webs(5):
            for row in exchanges(5, ties):
                for form in four_forms(row):
                    self.assertEqual(done(5, ties, form), left_by(ties, row))

    def test_the_order_of_the_ties_makes_no_difference(self):
        for ties in permutations(MIXED_UP):
            self.assertEqual(done(6, list(ties), (0, 1, 2, 5)), [(0, 2), (0, 3), (1, 4), (1, 5), (4, 5)])

    def test_ten_points(self):
        self.assertEqual(done(10, [(8, 9), (0, 1)], (9, 8, 0, 1)), [(0, 9), (1, 8)])
        ties = ring(range(10))
        self.assertEqual(done(10, ties[::-1], (4, 5, 9, 0)), left_by(ties, (4, 5, 9, 0)))

    def test_there_and_back(self):
        for ties in all_webs(5):
            for a, b, c, d in exchanges(5, ties):
                self.assertEqual(done(5, done(5, ties, (a, b, c, d)), (a, c, b, d)), ties)

    def test_the_answer_is_a_list_of_tuples_of_whole_numbers(self):
        told = done(6, MIXED_UP, (0, 1, 2, 5))
        self.assertIs(type(told), list)
        self.assertEqual({type(tie) for tie in told}, {tuple})
        self.assertEqual({type(point) for tie in told for point in tie}, {int})

    def test_the_list_is_the_askers_own(self):
        ties = [(0, 1), (2, 3)]
        told = done(4, ties, (0, 1, 2, 3))
        told.append((0, 1))
        told[0] = (2, 3)
        again = done(4, ties, (0, 1, 2, 3))
        self.assertEqual(again, [(0, 2), (1, 3)])
        self.assertEqual(ties, [(0, 1), (2, 3)])
        done(4, again, (0, 2, 1, 3))
        exchanges(4, again)
        self.assertEqual(told, [(2, 3), (1, 3), (0, 1)])
        self.assertEqual(again, [(0, 2), (1, 3)])

    def test_what_is_handed_in_stays(self):
        ties = list(MIXED_UP)
        done(6, ties, (0, 1, 2, 5))
        self.assertEqual(ties, MIXED_UP)


class Exchanges(unittest.TestCase):
    def test_told_by_hand(self):
        self.assertEqual(exchanges(4, [(2, 3), (0, 1)]), [(0, 1, 2, 3), (0, 1, 3, 2)])
        self.assertEqual(exchanges(4, [(0, 1), (1, 2), (2, 3)]), [(0, 1, 2, 3)])
        self.assertEqual(exchanges(4, [(0, 1), (0, 2), (0, 3)]), [])
        self.assertEqual(exchanges(5, [(3, 4), (1, 2)]), [(1, 2, 3, 4), (1, 2, 4, 3)])

    def test_webs_without_any(self):
        for size in range(1, 11):
            self.assertEqual(exchanges(size, []), [])
            self.assertEqual(exchanges(size, all_ties(size)), [])
            self.assertEqual(exchanges(size, [(0, point) for point in range(1, size)]), [])

    def test_every_web_of_up_to_four_points(self):
        for size in range(1, 5):
            for ties in all_webs(size):
                expected = [row for row in product(range(size), repeat=4)
                            if row[0] == min(row) and is_exchange(ties, row)]
                self.assertEqual(exchanges(size, ties), expected, (size, ties))
                self.assertEqual(exchanges(size, ties[::-1]), expected, (size, ties))

    def test_every_web_of_five_points(self):
        rows = [row for row in permutations(range(5), 4) if row[0] == min(row)]
        for ties in all_webs(5):
            self.assertEqual(exchanges(5, ties), [row for row in rows if is_exchange(ties, row)], ties)

    def test_webs_of_ten_points(self):
        rows = list(permutations(range(10), 4))
        for ties in (ring(range(10)), ring([0, 5, 1, 6, 2]) + ring([3, 8, 4, 9, 7]),
                     [tie for tie in all_ties(10) if sum(tie) % 3], [tie for tie in all_ties(10) if sum(tie) % 4 == 1]):
            expected = [row for row in rows if row[0] == min(row) and is_exchange(ties, row)]
            self.assertEqual(exchanges(10, ties[::-1]), expected)

    def test_each_way_to_change_a_web_stands_there_once(self):
        for ties in all_webs(5):
            left = [tuple(left_by(ties, row)) for row in exchanges(5, ties)]
            ways = {tuple(left_by(ties, row)) for row in permutations(range(5), 4) if is_exchange(ties, row)}
            self.assertEqual(sorted(left), sorted(ways), ties)

    def test_the_answer_is_a_list_of_tuples_of_whole_numbers(self):
        told = exchanges(6, MIXED_UP)
        self.assertIs(type(told), list)
        self.assertEqual({type(row) for row in told}, {tuple})
        self.assertEqual({type(point) for row in told for point in row}, {int})

    def test_the_list_is_the_askers_own(self):
        ties = [(0, 1), (2, 3)]
        told = exchanges(4, ties)
        told.append((9, 9, 9, 9))
        told[0] = None
        again = exchanges(4, ties)
        self.assertEqual(again, [(0, 1, 2, 3), (0, 1, 3, 2)])
        exchanges(4, [])
        done(4, ties, (0, 1, 2, 3))
        self.assertEqual(told, [None, (0, 1, 3, 2), (9, 9, 9, 9)])
        self.assertEqual(again, [(0, 1, 2, 3), (0, 1, 3, 2)])

    def test_what_is_handed_in_stays(self):
        ties = list(MIXED_UP)
        exchanges(6, ties)
        self.assertEqual(ties, MIXED_UP)

    def test_a_changed_web_is_told_anew(self):
        ties = [(0, 1)]
        self.assertEqual(exchanges(4, ties), [])
        ties.append((2, 3))
        self.assertEqual(len(exchanges(4, ties)), 2)
        ties.append((0, 2))
        self.assertEqual(exchanges(4, ties), [(0, 1, 3, 2)])


if __name__ == "__main__":
    unittest.main()
