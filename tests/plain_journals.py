"""Journals made at random, and a second way to read what they move, to compare with."""

from decimal import Decimal

from tests.test_plain_reading import MOVEMENT

NAMES = ("a", "a-", "a0", "a_b", "ab", "b", "b-c", "zz9")
KINDS = ("A", "AB", "B", "EUR", "EURO")
DAYS = ("1583-01-01", "2025-12-31", "2026-01-01", "2026-01-02", "2026-02-01", "9999-12-31")


def random_account(source):
    return ":".join(source.choices(NAMES, k=min(source.randint(1, 8), source.randint(1, 8))))


def random_amount(source):
    amount = Decimal(source.randint(0, 10 ** source.randint(1, 12))).scaleb(-source.randint(0, 4))
    return source.choice([f"{amount:f}", f"-{amount:f}"])


def random_entry(source, accounts):
    rows = []
    has_lacking = source.random() < 0.8
    for _ in range(source.randint(1, 6)):
        amount = random_amount(source)
        kind = source.choice(KINDS)
        rows.append(f" {source.choice(accounts)} {amount} {kind}")
        if not has_lacking or source.random() < 0.3:
            opposite = amount[1:] if amount[0] == "-" else "-" + amount
            rows.append(f"\t{source.choice(accounts)}  {opposite}\t{kind} # back")
    if has_lacking:
        rows.append("  " + source.choice(accounts))
    source.shuffle(rows)
    return "\n".join([source.choice(DAYS) + source.choice(["", " x"])] + rows) + "\n"


def random_journal(source):
    """A journal, and an account and a day to ask for."""
    accounts = [random_account(source) for _ in range(source.randint(1, 8))]
    text = "".join([random_entry(source, accounts) for _ in range(source.randint(0, 6))])
    asked = source.choice(accounts + [""] * 4)
    return text, ":".join(asked.split(":")[:source.randint(1, 8)]), source.choice(DAYS)


def plain_wanted(account, groups):
    """What an account without an amount moves in an entry with these movements."""
    kinds = [kind for _, _, kind in groups if kind]
    moved = []
    for kind in sorted(set(kinds), key=kinds.index):
        total = sum([Decimal(amount) for _, amount, other in groups if other == kind])
        if total:
            moved.append((account, -total, kind))
    return moved


def plain_movements(text, asked, day):
    """The movements of the account that is asked for up to the day: each one's day, account, amount and kind."""
    moved = []
    outer = asked.split(":") if asked else []
    for block in ("\n" + text.rstrip("\n")).replace("\n ", "\r ").replace("\n\t", "\r\t").split("\n")[1:]:
        rows = block.split("\r")
        groups = [MOVEMENT.fullmatch(row.split("#")[0]).groups() for row in rows[1:]]
        for account, amount, kind in groups:
            whole = [(account, Decimal(amount), kind)] if amount else plain_wanted(account, groups)
            if rows[0][:10] <= day and account.split(":")[:len(outer)] == outer:
                moved += [(rows[0][:10], *movement) for movement in whole]
    return moved


def shown(amount):
    # A Decimal may be -0, which a sum with 0 is not.
    digits = f"{amount + 0:f}"
    return digits.rstrip("0").rstrip(".") if "." in digits else digits


def answer_of(lines, most):
    told = "".join([" ".join(line) + "\n" for line in lines]).encode()
    return [-3] if len(told) > max(most, 0) else [len(told)] + list(told)
