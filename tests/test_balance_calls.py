import inspect
import unittest

from evenbook.journal import balance
from tests import keeping
from tests.support import EVEN, EXAMPLE, LAST_DAY, MOST_BYTES, MOST_INT, BalanceCase, bytes_of


class Calls(keeping.Calls, unittest.TestCase):
    ASKED = (
        (8, MOST_INT, EXAMPLE, "", LAST_DAY), (1, MOST_INT, EXAMPLE, "assets", "2026-01-05"),
        (2, 17, EXAMPLE, "assets:cash", LAST_DAY), (1, 17, EXAMPLE, "assets:cash", LAST_DAY),
        (8, 0, EXAMPLE, "other", LAST_DAY), (8, -1, "", "", LAST_DAY), (8, 0, EVEN, "", LAST_DAY),
        (8, MOST_INT, EVEN + "x", "a", LAST_DAY), (0, 5, EVEN, "a", LAST_DAY), (8, 5, EVEN, "A", LAST_DAY),
        (8, 5, EVEN, "a", "2026-02-29"), (8, MOST_INT, EVEN[:-1] + "\t# x", "b", "2026-01-01"),
    )

    def call(self, depth, most, text, account, day):
        return balance(depth, most, text, account, day)

    def test_what_the_arguments_are_called(self):
        self.assertEqual(list(inspect.signature(balance).parameters), ["depth", "most", "text", "account", "day"])
        self.assertEqual(
            balance(depth=1, most=9, text=bytes_of(EVEN), account=bytes_of("a"), day=bytes_of(LAST_DAY)),
            [8, 97, 32, 49, 32, 69, 85, 82, 10],
        )


def sums_of(moved):
    """What each account has of each kind."""
    sums = {}
    for account, amount, kind in moved:
        sums[account, kind] = sums.get((account, kind), 0) + amount
    return sums


class LongTexts(keeping.LongTexts, BalanceCase):
    def test_all_that_there_may_be(self):
        text, moved = keeping.full_journal()
        sums = sums_of(moved)
        text += "#" * (MOST_BYTES - len(text))
        lines = [f"{account} {sums[account, kind]} {kind}" for account, kind in sorted(sums) if sums[account, kind]]
        self.in_short_time(text, lines)
        self.in_short_time(text, [line for line in lines if line.startswith("b:c5 ")], account="b:c5")
        self.in_short_time(text, [], day="2025-12-31")

    def test_accounts_that_all_fall_together(self):
        text, moved = keeping.full_journal()
        sums = sums_of([(account[0], amount, kind) for account, amount, kind in moved])
        text += "\n" * (MOST_BYTES - len(text))
        self.in_short_time(text, [f"{name} {sums[name, kind]} {kind}" for name, kind in sorted(sums)], depth=1)

    def test_much_to_tell(self):
        text, accounts, kinds = keeping.wide_journal()
        text += " " * (MOST_BYTES - len(text))
        lines = [f"a 128 {kind}" for kind in kinds]
        lines += [f"{account} -1 {kind}" for account in accounts for kind in kinds]
        self.in_short_time(text, lines)


if __name__ == "__main__":
    unittest.main()
