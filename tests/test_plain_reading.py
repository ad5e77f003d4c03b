"""Texts made at random, from a fixed seed, and a second reading of the document to compare with."""

import datetime
import random
import re
import unittest
from decimal import Decimal

from evenbook.journal import check
from tests.support import EXAMPLE, bytes_of

DAY = re.compile(r"(\d{4})-(\d{2})-(\d{2})(?:[ \t][^\n]*)?", re.ASCII)
NAME = r"[a-z][a-z0-9_-]{0,30}"
MOVEMENT = re.compile(
    rf"[ \t]+({NAME}(?::{NAME}){{0,7}})(?:[ \t]+(-?(?:0|[1-9][0-9]{{0,13}})(?:\.[0-9]{{1,4}})?)[ \t]+([A-Z]{{1,8}}))?[ \t]*"
)


def day_there_is(match):
    try:
        day = datetime.date(int(match[1]), int(match[2]), int(match[3]))
    except ValueError:
        return False
    return day >= datetime.date(1583, 1, 1)


def within_bounds(entries, counts_wants):
    """Whether what all entries so far say keeps the bounds; each wants what is missing only if that is counted."""
    amounts = []
    accounts = set()
    for number, movements in enumerate(entries):
        accounts |= {account for account, _, _ in movements}
        written = [(kind, Decimal(amount)) for account, amount, kind in movements if amount is not None]
        amounts += written
        if len(written) < len(movements) and (counts_wants or number < len(entries) - 1):
            for kind in {kind for kind, _ in written}:
                total = sum(amount for other, amount in written if other == kind)
                amounts += [(kind, -total)] if total else []
    kinds = {kind for kind, _ in amounts}
    sizes = [sum(abs(amount) for other, amount in amounts if other == kind) for kind in kinds]
    return len(amounts) <= 4096 and len(accounts) <= 256 and len(kinds) <= 16 and all(size < 10**14 for size in sizes)


def ends_well(entries):
    if not entries:
        return True
    last = entries[-1]
    if len(last) < 2 or not within_bounds(entries, True):
        return False
    if any(amount is None for _, amount, _ in last):
        return True
    kinds = {kind for _, _, kind in last}
    return all(sum(Decimal(amount) for _, amount, other in last if other == kind) == 0 for kind in kinds)


def goes_on(entries):
    last = entries[-1]
    lacking = [movement for movement in last if movement[1] is None]
    return len(last) <= 64 and len(lacking) <= 1 and within_bounds(entries, False)


def plain_check(text):
    lines = text.split("\n")
    if lines[-1] == "":
        lines.pop()
    entries = []
    for number, line in enumerate(lines, start=1):
        line = line.split("#")[0]
        if line.strip(" \t") == "":
            continue
        if line[0] not in " \t":
            match = DAY.fullmatch(line)
            if not match or not day_there_is(match) or not ends_well(entries):
                return [-1, number]
            entries.append([])
        else:
            match = MOVEMENT.fullmatch(line)
            if not match or not entries:
                return [-1, number]
            entries[-1].append(match.groups())
            if not goes_on(entries):
                return [-1, number]
    return [0] if ends_well(entries) else [-1, len(lines) + 1]


class PlainReading(unittest.TestCase):
    def compare(self, text):
        self.assertEqual(check(bytes_of(text)), plain_check(text), text)

    def test_the_documents_example_changed_at_random(self):
        source = random.Random(1)
        signs = " \t\n#-:.0159aezAZ_\r\x00\xff"
        for _ in range(6000):
            text = list(EXAMPLE)
            for _ in range(source.randint(1, 3)):
                place = source.randrange(len(text))
                text[place:place + source.randint(0, 1)] = source.choice(["", source.choice(signs)])
            self.compare("".join(text))

    def test_every_beginning_of_the_example(self):
        for length in range(len(EXAMPLE) + 1):
            self.compare(EXAMPLE[:length])

    def test_lines_at_random(self):
        source = random.Random(2)
        lines = [
            "2026-01-01", "2024-02-29 x", "1900-02-29", "", " ", "# x", " a", " b", " a 1 A", " b -1 A", " a 0 A",
            " c:d 0.5 B", " c:d -0.5 B", " a 50000000000000 C", " b -49999999999999.9999 C", " b 1 A # x", " a 1",
        ]
        weights = [8, 3, 1, 1, 1, 1, 4, 4, 8, 8, 4, 4, 4, 1, 1, 4, 1]
        for _ in range(6000):
            rows = source.choices(lines, weights, k=source.randint(0, 12))
            self.compare("\n".join(["2026-01-01"] + rows) + source.choice(["", "\n"]))

    def test_journals_at_random(self):
        source = random.Random(3)
        journals = 0
        for _ in range(1500):
            text = "".join([self.entry(source) for _ in range(source.randint(1, 8))])
            self.compare(text)
            journals += check(bytes_of(text)) == [0]
        self.assertGreater(journals, 300)
        self.assertLess(journals, 1400)

    def entry(self, source):
        rows = []
        for _ in range(source.randint(1, 5)):
            amount = Decimal(source.randint(0, 10 ** source.randint(1, 17))).scaleb(-source.randint(0, 4))
            shown = f"{amount % 10**14:f}"
            kind = source.choice(["A", "B", "EUR", "TWENTY"[:source.randint(1, 6)]])
            rows += [f" a:b{source.randint(0, 9)} {shown} {kind}", f"\tc -{shown}\t{kind} "]
        if source.random() < 0.5:
            rows[source.randrange(len(rows))] = "  equity"
        source.shuffle(rows)
        if source.random() < 0.03:
            rows.pop()
        return "\n".join(["2026-01-01 x"] + rows) + "\n"


if __name__ == "__main__":
    unittest.main()
