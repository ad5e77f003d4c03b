import unittest

from tests.support import EVEN, EXAMPLE, MOST_INT, BalanceCase, entry, zero_entries

LEAST_INT = -2147483648

NO_JOURNALS = (
    "x", " a 1 EUR", "2026-01-01\n", "2026-02-29\n a 1 EUR\n b\n", EVEN + "x", EVEN + "2026-01-01\n a 1 EUR\n",
    entry(["a 1 EUR", "b 1 EUR"]), entry(["a", "b"]), entry(["A 1 EUR", "b"]), entry(["a 1 eur", "b"]),
    entry(["a 0 A"] * 65), zero_entries(4095) + entry(["a 1 A", "b"]), entry(["a 50000000000000 A", "b"]),
)
NO_DEPTHS = (0, 9, -1, 10, 16, 256, MOST_INT, LEAST_INT)
NO_ACCOUNTS = (
    ":", "assets:", ":assets", "assets::cash", "a:a:a:a:a:a:a:a:a", "Assets", "assets:Cash", "ASSETS", "aSSETS",
    "a" * 32, "assets:" + "a" * 32, "a" * 300, ":".join(["z" + "9" * 30] * 9)[:300], "a:" * 150, ":" * 300, "0" * 300,
    "0a", "-a", "_a", "assets:0", " ", "assets ", " assets", "assets cash", "assets\n", "#", "assets#", "assets.cash",
    "\x00", "\xff", "assets:\xe4",
)
NO_DAYS = (
    "2026-02-29", "1900-02-29", "2024-02-30", "2026-13-01", "2026-00-01", "2026-01-00", "2026-01-32", "2026-04-31",
    "1582-12-31", "0000-00-00", "0000-01-01", "2026/01/01", "2026-01 01", "20260-1-01", "2026-1-001", "2026-01-0a",
    "abcdefghij", "          ", "----------", "2026-01-0\n", "+026-01-01", "2026-01-0\xb2", "\x00" * 10, "\xff" * 10,
    "2026001001", "0123456789",
)


class NoJournal(BalanceCase):
    def test_alone(self):
        for text in NO_JOURNALS:
            self.refused(text, -1)

    def test_whatever_else_is_wrong(self):
        for text in NO_JOURNALS:
            self.refused(text, -1, depth=0)
            self.refused(text, -1, account="Assets")
            self.refused(text, -1, day="2026-02-29")
            self.refused(text, -1, most=0)
            self.refused(text, -1, depth=9, account=":", day="2026-13-01", most=-1)

    def test_behind_the_day_or_outside_the_account(self):
        text = EXAMPLE + entry(["other 1 EUR", "other 1 EUR"], "2027-01-01")
        self.refused(text, -1, account="assets", day="2026-01-31")


class NotAsked(BalanceCase):
    def alone_and_ahead_of_most(self, **asked):
        for text in (EXAMPLE, ""):
            self.refused(text, -2, **asked)
            self.refused(text, -2, most=0, **asked)
            self.refused(text, -2, most=-1, **asked)

    def test_depths(self):
        for depth in NO_DEPTHS:
            self.alone_and_ahead_of_most(depth=depth)

    def test_accounts(self):
        for account in NO_ACCOUNTS:
            self.assertLessEqual(len(account), 300)
            self.alone_and_ahead_of_most(account=account)

    def test_every_byte_that_a_name_does_not_hold(self):
        for byte in range(256):
            sign = chr(byte)
            if not ("a" <= sign <= "z" or "0" <= sign <= "9" or sign in "_-"):
                self.refused(EXAMPLE, -2, account="assets" + sign)
            if not "a" <= sign <= "z":
                self.refused(EXAMPLE, -2, account=sign)

    def test_days(self):
        for day in NO_DAYS:
            self.assertEqual(len(day), 10)
            self.alone_and_ahead_of_most(day=day)

    def test_several_at_once(self):
        self.alone_and_ahead_of_most(depth=0, account="Assets", day="2026-13-01")

    def test_those_that_are_asked(self):
        for depth in range(1, 9):
            self.told(EXAMPLE, [], depth=depth, account="other")
        for account in ("a", "z9_-", "a" * 31, "a:a:a:a:a:a:a:a", ":".join(["z" + "-" * 30] * 8)):
            self.told(EXAMPLE, [], account=account)
        for day in ("1583-01-01", "2024-02-29", "2000-02-29", "1600-12-31"):
            self.told(EXAMPLE, [], day=day)


class TooMany(BalanceCase):
    LINE = ["assets 87.66 EUR"]

    def test_just_as_many(self):
        self.told(EXAMPLE, self.LINE, account="assets:cash", depth=1, most=17)
        self.told(EXAMPLE, self.LINE, account="assets:cash", depth=1, most=18)
        self.told(EXAMPLE, self.LINE, account="assets:cash", depth=1, most=MOST_INT)

    def test_one_more(self):
        self.refused(EXAMPLE, -3, account="assets:cash", depth=1, most=16)

    def test_every_most(self):
        whole = self.balance(EXAMPLE)
        for most in range(whole[0]):
            self.refused(EXAMPLE, -3, most=most)
        self.assertEqual(self.balance(EXAMPLE, most=whole[0]), whole)

    def test_0_and_below_with_something_to_tell(self):
        for most in (0, -1, -17, -18, LEAST_INT):
            self.refused(EXAMPLE, -3, account="assets:cash", depth=1, most=most)

    def test_0_and_below_with_nothing_to_tell(self):
        for most in (0, -1, LEAST_INT):
            self.told(EXAMPLE, [], account="other", most=most)
            self.told(EXAMPLE, [], day="2026-01-04", most=most)
            self.told(entry(["a:b 1 A", "a:c"]), [], depth=1, most=most)
            self.told("", [], most=most)


if __name__ == "__main__":
    unittest.main()
