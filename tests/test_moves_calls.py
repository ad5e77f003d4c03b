import inspect
import unittest

from evenbook.journal import moves
from tests import keeping
from tests.support import EVEN, EXAMPLE, LAST_DAY, MOST_BYTES, MOST_INT, OUT_OF_ORDER, MovesCase, bytes_of, entry


class Calls(keeping.Calls, unittest.TestCase):
    ASKED = (
        (MOST_INT, EXAMPLE, "", LAST_DAY), (MOST_INT, EXAMPLE, "assets", "2026-01-05"),
        (34, EXAMPLE, "equity", "2026-01-05"), (1, EXAMPLE, "assets:cash", LAST_DAY),
        (MOST_INT, OUT_OF_ORDER, "", LAST_DAY), (MOST_INT, OUT_OF_ORDER, "c", "2026-01-01"),
        (0, EXAMPLE, "other", LAST_DAY), (-1, "", "", LAST_DAY), (0, EVEN, "", LAST_DAY),
        (MOST_INT, EVEN + "x", "a", LAST_DAY), (5, EVEN, "A", LAST_DAY), (5, EVEN, "a", "2026-02-29"),
        (MOST_INT, EVEN[:-1] + "\t# x", "b", "2026-01-01"),
    )

    def call(self, most, text, account, day):
        return moves(most, text, account, day)

    def test_what_the_arguments_are_called(self):
        self.assertEqual(list(inspect.signature(moves).parameters), ["most", "text", "account", "day"])
        self.assertEqual(
            moves(most=21, text=bytes_of(EVEN), account=bytes_of("a"), day=bytes_of(LAST_DAY)),
            [21, 50, 48, 50, 54, 45, 48, 49, 45, 48, 49, 32, 97, 32, 49, 32, 69, 85, 82, 32, 49, 10],
        )


class LongTexts(keeping.LongTexts, MovesCase):
    def lines(self, moved, account=""):
        """The lines of the movements of an account that none is within."""
        lines = []
        sums = {}
        for other, amount, kind in moved:
            if account in ("", other):
                sums[kind] = sums.get(kind, 0) + amount
                lines.append(f"2026-01-01 {other} {amount} {kind} {sums[kind]}")
        return lines

    def test_all_that_there_may_be(self):
        text, moved = keeping.full_journal()
        text += "#" * (MOST_BYTES - len(text))
        self.in_short_time(text, self.lines(moved))
        self.in_short_time(text, self.lines(moved, "b:c5"), account="b:c5")
        self.in_short_time(text, self.lines([move for move in moved if move[0][0] == "a"]), account="a")
        self.in_short_time(text, [], day="2025-12-31")

    def test_days_that_all_stand_the_wrong_way_round(self):
        days = [f"20{number // 28 // 12:02}-{number // 28 % 12 + 1:02}-{number % 28 + 1:02}" for number in range(2048)]
        text = "".join([entry([f"b{number % 255}", "a 1 A"], days[number]) for number in reversed(range(2048))])
        lines = []
        for number, day in enumerate(days):
            lines += [f"{day} b{number % 255} -1 A -1", f"{day} a 1 A 0"]
        self.in_short_time(text + "\n" * (MOST_BYTES - len(text)), lines)

    def test_much_to_tell(self):
        text, accounts, kinds = keeping.wide_journal()
        text += " " * (MOST_BYTES - len(text))
        lines = []
        for account in accounts:
            lines += [f"2026-01-01 {account} -1 {kind} -1" for kind in kinds]
            lines += [f"2026-01-01 a 1 {kind} 0" for kind in kinds]
        self.in_short_time(text, lines)


if __name__ == "__main__":
    unittest.main()
