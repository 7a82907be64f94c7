import unittest

from tiecount import errors
from tiecount.errors import BadCounts, BadExchange, BadMany, BadWeb, NoWeb, TieError, Unlike

KINDS = [BadCounts, BadMany, BadWeb, BadExchange, Unlike, NoWeb]


class Errors(unittest.TestCase):
    def test_a_tie_error_is_a_value_error(self):
        self.assertEqual(TieError.__bases__, (ValueError,))

    def test_each_kind_stands_straight_under_tie_error(self):
        for kind in KINDS:
            with self.subTest(kind=kind.__name__):
                self.assertEqual(kind.__bases__, (TieError,))

    def test_no_kind_is_another_one(self):
        for kind in KINDS:
            for other in KINDS:
                with self.subTest(kind=kind.__name__, other=other.__name__):
                    self.assertEqual(issubclass(kind, other), kind is other)

    def test_each_is_defined_under_its_name(self):
        names = ["TieError", "BadCounts", "BadMany", "BadWeb", "BadExchange", "Unlike", "NoWeb"]
        for name, kind in zip(names, [TieError] + KINDS):
            self.assertIs(getattr(errors, name), kind)
            self.assertEqual(kind.__name__, name)
            self.assertEqual(kind.__module__, "tiecount.errors")

    def test_each_can_be_raised_and_caught(self):
        for kind in KINDS:
            for caught in (kind, TieError, ValueError):
                with self.assertRaises(caught):
                    raise kind("a word")


if __name__ == "__main__":
    unittest.main()
