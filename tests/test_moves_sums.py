import unittest

from tests import amounts
from tests.support import MovesCase, capital_word, entry


class Told(amounts.Told, MovesCase):
    def as_told(self, written, told):
        """What an amount is told as, where it stands alone, and what is wanting for it."""
        text = entry([f"a {written} A", "b"])
        wanting = told[1:] if told.startswith("-") else "-" + told
        self.told(text, [f"2026-01-01 a {told} A {told}", f"2026-01-01 b {wanting} A 0"])
        self.told(text, [f"2026-01-01 b {wanting} A {wanting}"], account="b")

    def test_0_that_is_written_is_a_movement(self):
        for written in ("0", "-0", "0.0", "-0.0", "0.00", "-0.00", "0.0000", "-0.0000"):
            self.told(entry([f"a {written} A", "b"]), ["2026-01-01 a 0 A 0"])
            self.told(
                entry(["a 1 A", f"b {written} A", "c -1 A"]),
                ["2026-01-01 a 1 A 1", "2026-01-01 b 0 A 1", "2026-01-01 c -1 A 0"],
            )


class After(MovesCase):
    """What the account has of the kind after each movement."""

    def sums_of(self, amounts, told):
        lines = [f"2026-01-01 a {amount} A {total}" for amount, total in zip(amounts, told, strict=True)]
        movements = [f"a {amount} A" for amount in amounts]
        self.told(entry(movements + ["b"]), lines, account="a")
        self.told("".join([entry([movement, "b"]) for movement in movements]), lines, account="a")

    def test_of_several(self):
        self.sums_of(["1", "2"], ["1", "3"])
        self.sums_of(["0.1", "0.2", "0.7"], ["0.1", "0.3", "1"])
        self.sums_of(["9.9999", "0.0001"], ["9.9999", "10"])
        self.sums_of(["0.0001", "0.001", "0.01", "0.1", "1"], ["0.0001", "0.0011", "0.0111", "0.1111", "1.1111"])
        self.sums_of(["24999999999999.9999", "0.0001", "24999999999999"], [
            "24999999999999.9999", "25000000000000", "49999999999999",
        ])

    def test_below_0(self):
        self.sums_of(["1", "-3", "1.5", "0.5"], ["1", "-2", "-0.5", "0"])
        self.sums_of(["-0.5", "-0.5"], ["-0.5", "-1"])
        self.sums_of(["-10", "0.0001"], ["-10", "-9.9999"])

    def test_of_0(self):
        self.sums_of(["1", "-1", "1", "-1"], ["1", "0", "1", "0"])
        self.sums_of(["0.1", "0.2", "-0.3", "5"], ["0.1", "0.3", "0", "5"])
        self.sums_of(["-0.0001", "0.0001", "0"], ["-0.0001", "0", "0"])

    def test_accounts_within_it_together(self):
        text = entry(["a:b 1 A", "c 16 A", "a:c:d 2 A", "a 4 A", "ab 32 A", "a:b -1 A", "z"])
        self.told(
            text,
            ["2026-01-01 a:b 1 A 1", "2026-01-01 a:c:d 2 A 3", "2026-01-01 a 4 A 7", "2026-01-01 a:b -1 A 6"],
            account="a",
        )
        self.told(text, ["2026-01-01 a:b 1 A 1", "2026-01-01 a:b -1 A 0"], account="a:b")
        self.told(text, ["2026-01-01 a:c:d 2 A 2"], account="a:c")

    def test_all_accounts_together(self):
        text = entry(["a 1 A", "b 2 A", "c -3 A"]) + entry(["a 4 A", "b -5 A", "c"])
        self.told(text, [
            "2026-01-01 a 1 A 1", "2026-01-01 b 2 A 3", "2026-01-01 c -3 A 0", "2026-01-01 a 4 A 4",
            "2026-01-01 b -5 A -1", "2026-01-01 c 1 A 0",
        ])

    def test_each_kind_by_itself(self):
        kinds = [capital_word(number) for number in range(16)]
        movements = [f"a {number + 1} {kind}" for number, kind in enumerate(kinds)]
        lines = [f"2026-01-01 a {number + 1} {kind} {number + 1}" for number, kind in enumerate(kinds)]
        again = [f"2026-01-01 a {number + 1} {kind} {number * 2 + 2}" for number, kind in enumerate(kinds)]
        self.told(entry(movements + ["b"]) * 2, lines + again, account="a")
        self.told(
            entry(["a 1 EU", "a -1 EUR", "a 2 EU", "b"]),
            ["2026-01-01 a 1 EU 1", "2026-01-01 a -1 EUR -1", "2026-01-01 a 2 EU 3"],
            account="a",
        )

    def test_in_the_order_in_which_the_lines_are_told(self):
        text = entry(["a 1 A", "b"], "2026-01-03") + entry(["a 2 A", "b"], "2026-01-01")
        text += entry(["a 4 A", "b"], "2026-01-02") + entry(["a 8 A", "b"], "2026-01-01")
        self.told(
            text,
            ["2026-01-01 a 2 A 2", "2026-01-01 a 8 A 10", "2026-01-02 a 4 A 14", "2026-01-03 a 1 A 15"],
            account="a",
        )


if __name__ == "__main__":
    unittest.main()
