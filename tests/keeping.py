"""What balance and moves share as calls, for either: what is handed in stays, and nothing is kept."""

import time

from evenbook.journal import check
from tests.support import MOST_BYTES, bytes_of, capital_word, entry


def handed(asked):
    """What is handed in: whole numbers as they are, texts as lists of bytes."""
    return [bytes_of(value) if isinstance(value, str) else value for value in asked]


class Calls:
    """For a case that has `call` and, as `ASKED`, what it is asked for every kind of answer."""

    def asked_for(self, asked):
        return self.call(*handed(asked))

    def test_every_kind_of_answer_is_asked_for(self):
        self.assertEqual({min(self.asked_for(asked)[0], 1) for asked in self.ASKED}, {-3, -2, -1, 0, 1})

    def test_lists_of_whole_numbers(self):
        for asked in self.ASKED:
            answer = self.asked_for(asked)
            self.assertIs(type(answer), list)
            self.assertEqual([type(number) for number in answer], [int] * len(answer))
            if answer[0] < 0:
                self.assertEqual(len(answer), 1)
            else:
                self.assertEqual(len(answer), answer[0] + 1)

    def test_what_is_handed_in_stays(self):
        for asked in self.ASKED:
            values = handed(asked)
            answer = self.call(*values)
            self.assertEqual(values, handed(asked))
            answer.append(7)
            self.assertEqual(values, handed(asked))

    def test_a_second_call_answers_as_the_first(self):
        first = [self.asked_for(asked) for asked in self.ASKED]
        for asked, answer in reversed(list(zip(self.ASKED, first))):
            values = handed(asked)
            self.assertEqual(self.call(*values), answer)
            self.assertEqual(self.call(*values), answer)

    def test_an_answer_that_is_changed_changes_no_other(self):
        for asked in self.ASKED:
            answer = self.asked_for(asked)
            kept = list(answer)
            answer.append(7)
            self.assertEqual(self.asked_for(asked), kept)


def full_journal():
    """A journal of 4096 movements with 256 accounts and 16 kinds, and each movement's account, amount and kind."""
    texts = []
    moved = []
    for number in range(64):
        movements = []
        for pair in range(number * 32, number * 32 + 32):
            kind = "ABCDEFGHIJKLMNOP"[pair % 16]
            movements += [(f"a:c{pair % 128}", pair, kind), (f"b:c{pair * 7 % 128}", -pair, kind)]
        texts.append(entry([f"{account} {amount} {kind}" for account, amount, kind in movements]))
        moved += movements
    return "".join(texts), moved


def wide_journal():
    """A journal in which each of 128 long accounts moves all 16 kinds without an amount, these accounts and kinds."""
    kinds = [capital_word(number) for number in range(16)]
    movements = [f"a 1 {kind}" for kind in kinds]
    accounts = [f"b{number:03}" + "b" * 27 + ":" + ":".join(["c" * 31] * 7) for number in range(128)]
    return "".join([entry([account] + movements) for account in accounts]), accounts, kinds


class LongTexts:
    """For a case that has an `ask`."""

    def in_short_time(self, text, lines, **asked):
        self.assertEqual(len(text), MOST_BYTES)
        self.assertEqual(check(bytes_of(text)), [0])
        begin = time.perf_counter()
        self.told(text, lines, **asked)
        self.assertLess(time.perf_counter() - begin, 5)

    def test_the_full_journal_is_full(self):
        text, moved = full_journal()
        self.assertEqual(text.count("\n "), 4096)
        self.assertEqual(len(moved), 4096)
        self.assertEqual(len({account for account, _, _ in moved}), 256)
        self.assertEqual(len({kind for _, _, kind in moved}), 16)

    def test_of_one_sign(self):
        for sign in "\n \t#":
            self.in_short_time(sign * MOST_BYTES, [])
        for sign in "2-:a.A":
            self.refused(sign * MOST_BYTES, -1)
