import unittest

from tests import refusals
from tests.support import EXAMPLE, LEAST_INT, MOST_INT, BalanceCase, entry

NO_DEPTHS = (0, 9, -1, 10, 16, 256, MOST_INT, LEAST_INT)


class NoJournal(refusals.NoJournal, BalanceCase):
    def test_whatever_the_depth(self):
        for text in refusals.NO_JOURNALS:
            self.refused(text, -1, depth=0)
            self.refused(text, -1, depth=9, account=":", day="2026-13-01", most=-1)


class NotAsked(refusals.NotAsked, BalanceCase):
    def test_depths(self):
        for depth in NO_DEPTHS:
            self.alone_and_ahead_of_most(depth=depth)

    def test_several_at_once(self):
        self.alone_and_ahead_of_most(depth=0, account="Assets", day="2026-13-01")

    def test_depths_that_are_asked(self):
        for depth in range(1, 9):
            self.told(EXAMPLE, [], depth=depth, account="other")


class TooMany(refusals.TooMany, BalanceCase):
    def test_one_line(self):
        self.around(EXAMPLE, ["assets 87.66 EUR"], account="assets:cash", depth=1)

    def test_several_lines(self):
        self.around(EXAMPLE, ["assets:cash 87.66 EUR", "assets:dollars 20 USD"], account="assets")

    def test_nothing_to_tell_as_sums_come_out(self):
        for most in (0, -1, LEAST_INT):
            self.told(entry(["a:b 1 A", "a:c"]), [], depth=1, most=most)


if __name__ == "__main__":
    unittest.main()
