import unittest

from tests import refusals
from tests.support import EXAMPLE, LEAST_INT, MovesCase, entry


class NoJournal(refusals.NoJournal, MovesCase):
    pass


class NotAsked(refusals.NotAsked, MovesCase):
    pass


class TooMany(refusals.TooMany, MovesCase):
    def test_one_line(self):
        self.around(EXAMPLE, ["2026-01-06 expenses:food 12.34 EUR 12.34"], account="expenses")

    def test_several_lines(self):
        self.around(
            EXAMPLE,
            ["2026-01-05 assets:cash 100 EUR 100", "2026-01-06 assets:cash -12.34 EUR 87.66"],
            account="assets:cash",
        )

    def test_movements_of_0_are_something_to_tell(self):
        self.around(entry(["a 0 A", "b"]), ["2026-01-01 a 0 A 0"])

    def test_nothing_to_tell_as_nothing_is_wanting(self):
        for most in (0, -1, LEAST_INT):
            self.told(entry(["a 1 A", "a -1 A", "b"]), [], account="b", most=most)


if __name__ == "__main__":
    unittest.main()
