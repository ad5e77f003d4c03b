import inspect
import time
import unittest

from evenbook.journal import balance, check
from tests.support import EVEN, EXAMPLE, LAST_DAY, MOST_INT, BalanceCase, bytes_of, capital_word, entry, zero_entries

MOST_BYTES = 65536

# Each is asked for every kind of answer: something told, nothing told, and each refusal.
ASKED = (
    (8, MOST_INT, EXAMPLE, "", LAST_DAY), (1, MOST_INT, EXAMPLE, "assets", "2026-01-05"),
    (2, 17, EXAMPLE, "assets:cash", LAST_DAY), (1, 17, EXAMPLE, "assets:cash", LAST_DAY),
    (8, 0, EXAMPLE, "other", LAST_DAY), (8, -1, "", "", LAST_DAY), (8, 0, EVEN, "", LAST_DAY),
    (8, MOST_INT, EVEN + "x", "a", LAST_DAY), (0, 5, EVEN, "a", LAST_DAY), (8, 5, EVEN, "A", LAST_DAY),
    (8, 5, EVEN, "a", "2026-02-29"), (8, MOST_INT, EVEN[:-1] + "\t# x", "b", "2026-01-01"),
)


def lists_of(text, account, day):
    return bytes_of(text), bytes_of(account), bytes_of(day)


def ask(asked):
    return balance(asked[0], asked[1], *lists_of(*asked[2:]))


class Calls(unittest.TestCase):
    def test_what_the_arguments_are_called(self):
        self.assertEqual(list(inspect.signature(balance).parameters), ["depth", "most", "text", "account", "day"])
        self.assertEqual(
            balance(depth=1, most=9, text=bytes_of(EVEN), account=bytes_of("a"), day=bytes_of(LAST_DAY)),
            [8, 97, 32, 49, 32, 69, 85, 82, 10],
        )

    def test_lists_of_whole_numbers(self):
        for asked in ASKED:
            answer = ask(asked)
            self.assertIs(type(answer), list)
            self.assertEqual([type(number) for number in answer], [int] * len(answer))
            if answer[0] < 0:
                self.assertEqual(len(answer), 1)
            else:
                self.assertEqual(len(answer), answer[0] + 1)

    def test_every_kind_of_answer_is_asked_for(self):
        self.assertEqual({min(ask(asked)[0], 1) for asked in ASKED}, {-3, -2, -1, 0, 1})

    def test_what_is_handed_in_stays(self):
        for asked in ASKED:
            lists = lists_of(*asked[2:])
            answer = balance(asked[0], asked[1], *lists)
            self.assertEqual(lists, lists_of(*asked[2:]))
            answer.append(7)
            self.assertEqual(lists, lists_of(*asked[2:]))

    def test_a_second_call_answers_as_the_first(self):
        first = [ask(asked) for asked in ASKED]
        for asked, answer in reversed(list(zip(ASKED, first))):
            lists = lists_of(*asked[2:])
            self.assertEqual(balance(asked[0], asked[1], *lists), answer)
            self.assertEqual(balance(asked[0], asked[1], *lists), answer)

    def test_an_answer_that_is_changed_changes_no_other(self):
        for asked in ASKED:
            answer = ask(asked)
            kept = list(answer)
            answer.append(7)
            self.assertEqual(ask(asked), kept)

    def test_check_and_balance_keep_nothing_for_one_another(self):
        for text in (EXAMPLE, zero_entries(4096), EVEN + "x", EVEN):
            before = check(bytes_of(text))
            for asked in ASKED:
                ask(asked)
            self.assertEqual(check(bytes_of(text)), before)
            self.assertEqual(ask(ASKED[1]), [29] + bytes_of("assets 100 EUR\nassets 20 USD\n"))


class LongTexts(BalanceCase):
    def in_short_time(self, text, lines, **asked):
        self.assertEqual(len(text), MOST_BYTES)
        self.assertEqual(check(bytes_of(text)), [0])
        begin = time.perf_counter()
        self.told(text, lines, **asked)
        self.assertLess(time.perf_counter() - begin, 5)

    def full(self):
        """A journal of 4096 movements with 256 accounts and 16 kinds, and what each account has of each kind."""
        texts = []
        sums = {}
        for number in range(64):
            movements = []
            for pair in range(number * 32, number * 32 + 32):
                kind = "ABCDEFGHIJKLMNOP"[pair % 16]
                for account, amount in ((f"a:c{pair % 128}", pair), (f"b:c{pair * 7 % 128}", -pair)):
                    movements.append(f"{account} {amount} {kind}")
                    sums[account, kind] = sums.get((account, kind), 0) + amount
            texts.append(entry(movements))
        return "".join(texts), sums

    def test_all_that_there_may_be(self):
        text, sums = self.full()
        self.assertEqual(text.count("\n "), 4096)
        self.assertEqual(len({account for account, _ in sums}), 256)
        self.assertEqual(len({kind for _, kind in sums}), 16)
        text += "#" * (MOST_BYTES - len(text))
        lines = [f"{account} {sums[account, kind]} {kind}" for account, kind in sorted(sums) if sums[account, kind]]
        self.in_short_time(text, lines)
        self.in_short_time(text, [line for line in lines if line.startswith("b:c5 ")], account="b:c5")
        self.in_short_time(text, [], day="2025-12-31")

    def test_accounts_that_all_fall_together(self):
        text, sums = self.full()
        text += "\n" * (MOST_BYTES - len(text))
        lines = []
        for name in "ab":
            for kind in "ABCDEFGHIJKLMNOP":
                total = sum(amount for (account, other), amount in sums.items() if account[0] == name and other == kind)
                lines.append(f"{name} {total} {kind}")
        self.in_short_time(text, lines, depth=1)

    def test_much_to_tell(self):
        kinds = [capital_word(number) for number in range(16)]
        movements = [f"a 1 {kind}" for kind in kinds]
        accounts = [f"b{number:03}" + "b" * 27 + ":" + ":".join(["c" * 31] * 7) for number in range(128)]
        text = "".join([entry(movements + [account]) for account in accounts])
        text += " " * (MOST_BYTES - len(text))
        lines = [f"a 128 {kind}" for kind in kinds]
        lines += [f"{account} -1 {kind}" for account in accounts for kind in kinds]
        self.in_short_time(text, lines)

    def test_of_one_sign(self):
        for sign in "\n \t#":
            self.in_short_time(sign * MOST_BYTES, [])
        for sign in "2-:a.A":
            self.refused(sign * MOST_BYTES, -1)


if __name__ == "__main__":
    unittest.main()
