"""Journals made at random, from a fixed seed, and a second way to balance them to compare with."""

import random
import unittest
from decimal import Decimal

from evenbook.journal import balance
from tests.support import bytes_of
from tests.test_plain_reading import MOVEMENT, plain_check

NAMES = ("a", "a-", "a0", "a_b", "ab", "b", "b-c", "zz9")
KINDS = ("A", "AB", "B", "EUR", "EURO")
DAYS = ("1583-01-01", "2025-12-31", "2026-01-01", "2026-01-02", "2026-02-01", "9999-12-31")


def plain_movements(text):
    """Each movement of a journal: the day, the account, the amount, the kind."""
    moved = []
    for block in ("\n" + text).replace("\n ", "\r ").replace("\n\t", "\r\t").split("\n")[1:]:
        rows = block.split("\r")
        groups = [MOVEMENT.fullmatch(row.split("#")[0]).groups() for row in rows[1:]]
        written = [(account, Decimal(amount), kind) for account, amount, kind in groups if amount]
        lacking = [account for account, amount, _ in groups if not amount]
        wanted = [(account, -amount, kind) for account in lacking for _, amount, kind in written]
        moved += [(rows[0][:10], *movement) for movement in written + wanted]
    return moved


def plain_balance(depth, text, account, day):
    sums = {}
    outer = account.split(":") if account else []
    for moved_on, moved, amount, kind in plain_movements(text.rstrip("\n")) if text else []:
        names = moved.split(":")
        if moved_on <= day and names[:len(outer)] == outer:
            place = (":".join(names[:depth]).encode(), kind.encode())
            sums[place] = sums.get(place, 0) + amount
    told = b""
    for (name, kind), amount in sorted(sums.items()):
        if amount:
            shown = f"{amount:f}"
            shown = shown.rstrip("0").rstrip(".") if "." in shown else shown
            told += name + b" " + shown.encode() + b" " + kind + b"\n"
    return [len(told)] + list(told)


class PlainBalance(unittest.TestCase):
    def account(self, source):
        return ":".join(source.choices(NAMES, k=min(source.randint(1, 8), source.randint(1, 8))))

    def amount(self, source):
        amount = Decimal(source.randint(0, 10 ** source.randint(1, 12))).scaleb(-source.randint(0, 4))
        return source.choice([f"{amount:f}", f"-{amount:f}"])

    def entry(self, source, accounts):
        rows = []
        for _ in range(source.randint(1, 6)):
            amount = self.amount(source)
            kind = source.choice(KINDS)
            rows.append(f" {source.choice(accounts)} {amount} {kind}")
            if source.random() < 0.3:
                opposite = amount[1:] if amount[0] == "-" else "-" + amount
                rows.append(f"\t{source.choice(accounts)}  {opposite}\t{kind} # back")
        rows.append("  " + source.choice(accounts))
        source.shuffle(rows)
        return "\n".join([source.choice(DAYS) + source.choice(["", " x"])] + rows) + "\n"

    def test_journals_at_random(self):
        source = random.Random(4)
        told = 0
        for _ in range(600):
            accounts = [self.account(source) for _ in range(source.randint(1, 8))]
            text = "".join([self.entry(source, accounts) for _ in range(source.randint(0, 6))])
            self.assertEqual(plain_check(text), [0])
            for _ in range(6):
                asked = source.choice(accounts + [""] * 4)
                asked = ":".join(asked.split(":")[:source.randint(1, 8)])
                depth = source.randint(1, 8)
                day = source.choice(DAYS)
                expected = plain_balance(depth, text, asked, day)
                most = source.choice([expected[0], expected[0] - 1, 100000])
                if expected[0] > max(most, 0):
                    expected = [-3]
                answer = balance(depth, most, bytes_of(text), bytes_of(asked), bytes_of(day))
                self.assertEqual(answer, expected, (text, depth, most, asked, day))
                told += answer[0] > 0
        self.assertGreater(told, 1000)


if __name__ == "__main__":
    unittest.main()
