"""The refusals that balance and moves share, for either: each is mixed with a case that has an `ask`."""

from tests.support import EVEN, EXAMPLE, LEAST_INT, MOST_INT, entry, zero_entries

NO_JOURNALS = (
    "x", " a 1 EUR", "2026-01-01\n", "2026-02-29\n a 1 EUR\n b\n", EVEN + "x", EVEN + "2026-01-01\n a 1 EUR\n",
    entry(["a 1 EUR", "b 1 EUR"]), entry(["a", "b"]), entry(["A 1 EUR", "b"]), entry(["a 1 eur", "b"]),
    entry(["a 0 A"] * 65), zero_entries(4095) + entry(["a 1 A", "b"]), entry(["a 50000000000000 A", "b"]),
)
NO_ACCOUNTS = (
    ":", "assets:", ":assets", "assets::cash", "a:a:a:a:a:a:a:a:a", "Assets", "assets:Cash", "ASSETS", "aSSETS",
    "a" * 32, "assets:" + "a" * 32, "a" * 300, ":".join(["z" + "9" * 30] * 9)[:300], "a:" * 150, ":" * 300, "0" * 300,
    "0a", "-a", "_a", "assets:0", " ", "assets ", " assets", "assets cash", "assets\n", "#", "assets#", "assets.cash",
    "\x00", "\xff", "assets:\xe4",
)
NO_DAYS = (
    "2026-02-29", "1900-02-29", "2024-02-30", "2026-13-01", "2026-00-01", "2026-01-00", "2026-01-32", "2026-04-31",
    "1582-12-31", "0000-00-00", "0000-01-01", "2026/01/01", "2026-01 01", "20260-1-01", "2026-1-001", "2026-01-0a",
    "abcdefghij", "          ", "----------", "2026-01-0\n", "+026-01-01", "2026-01-0\xb2", "\x00" * 10, "\xff" * 10,
    "2026001001", "0123456789",
)


class NoJournal:
    def test_alone(self):
        for text in NO_JOURNALS:
            self.refused(text, -1)

    def test_whatever_else_is_wrong(self):
        for text in NO_JOURNALS:
            self.refused(text, -1, account="Assets")
            self.refused(text, -1, day="2026-02-29")
            self.refused(text, -1, most=0)
            self.refused(text, -1, account=":", day="2026-13-01", most=-1)

    def test_behind_the_day_or_outside_the_account(self):
        text = EXAMPLE + entry(["other 1 EUR", "other 1 EUR"], "2027-01-01")
        self.refused(text, -1, account="assets", day="2026-01-31")


class NotAsked:
    def alone_and_ahead_of_most(self, **asked):
        for text in (EXAMPLE, ""):
            self.refused(text, -2, **asked)
            self.refused(text, -2, most=0, **asked)
            self.refused(text, -2, most=-1, **asked)

    def test_accounts(self):
        for account in NO_ACCOUNTS:
            self.assertLessEqual(len(account), 300)
            self.alone_and_ahead_of_most(account=account)

    def test_every_byte_that_a_name_does_not_hold(self):
        for byte in range(256):
            sign = chr(byte)
            if not ("a" <= sign <= "z" or "0" <= sign <= "9" or sign in "_-"):
                self.refused(EXAMPLE, -2, account="assets" + sign)
            if not "a" <= sign <= "z":
                self.refused(EXAMPLE, -2, account=sign)

    def test_days(self):
        for day in NO_DAYS:
            self.assertEqual(len(day), 10)
            self.alone_and_ahead_of_most(day=day)

    def test_account_and_day_at_once(self):
        self.alone_and_ahead_of_most(account="Assets", day="2026-13-01")

    def test_those_that_are_asked(self):
        for account in ("a", "z9_-", "a" * 31, "a:a:a:a:a:a:a:a", ":".join(["z" + "-" * 30] * 8)):
            self.told(EXAMPLE, [], account=account)
        for day in ("1583-01-01", "2024-02-29", "2000-02-29", "1600-12-31"):
            self.told(EXAMPLE, [], day=day)


class TooMany:
    def around(self, text, lines, **asked):
        """Told where most is just as many bytes or more, refused where it is one fewer, 0 or below."""
        count = len("".join([line + "\n" for line in lines]))
        for most in (count, count + 1, MOST_INT):
            self.told(text, lines, most=most, **asked)
        for most in (count - 1, 1, 0, -1, -count, -count - 1, LEAST_INT):
            self.refused(text, -3, most=most, **asked)

    def test_every_most(self):
        whole = self.ask(EXAMPLE)
        for most in range(whole[0]):
            self.refused(EXAMPLE, -3, most=most)
        self.assertEqual(self.ask(EXAMPLE, most=whole[0]), whole)

    def test_0_and_below_with_nothing_to_tell(self):
        for most in (0, -1, LEAST_INT):
            self.told(EXAMPLE, [], account="other", most=most)
            self.told(EXAMPLE, [], day="2026-01-04", most=most)
            self.told("", [], most=most)
