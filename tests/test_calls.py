import inspect
import time
import unittest

from evenbook.journal import check
from tests.support import EVEN, EXAMPLE, MOST_BYTES, bytes_of, entry, zero_entries


def filled(text, filling):
    """The text, and the filling behind it until there are 65536 bytes."""
    left = MOST_BYTES - len(text)
    return text + (filling * (left // len(filling) + 1))[:left]


class Calls(unittest.TestCase):
    def test_the_argument_is_called_text(self):
        self.assertEqual(list(inspect.signature(check).parameters), ["text"])
        self.assertEqual(check(text=bytes_of(EVEN)), [0])

    def test_lists_of_whole_numbers(self):
        for text in ("", EXAMPLE, "x", EVEN + "2026-01-01\n"):
            answer = check(bytes_of(text))
            self.assertIs(type(answer), list)
            self.assertEqual([type(number) for number in answer], [int] * len(answer))

    def test_what_is_handed_in_stays(self):
        for text in ("", EXAMPLE, EXAMPLE[:-1], "x", " a", "\t#\n", EVEN + "2026-01-01\n", "2026-01-01\n a 1 EUR\n b\t#"):
            handed = bytes_of(text)
            check(handed)
            self.assertEqual(handed, bytes_of(text))

    def test_a_second_call_answers_as_the_first(self):
        texts = [
            EXAMPLE, "2026-01-01\n", "", " a 1 EUR\n", EVEN, "2026-01-01\n a\n",
            zero_entries(4096), entry(["b 1 B", "c -1 B"]),
            entry(["a 49999999999999 A", "b"]), entry(["a 0 C", "d"]) + "x",
        ]
        first = [check(bytes_of(text)) for text in texts]
        self.assertEqual(first, [[0], [-1, 2], [0], [-1, 1], [0], [-1, 3], [0], [0], [0], [-1, 4]])
        for text, answer in reversed(list(zip(texts, first))):
            handed = bytes_of(text)
            self.assertEqual(check(handed), answer)
            self.assertEqual(check(handed), answer)

    def test_an_answer_that_is_changed_changes_no_other(self):
        for text in (EVEN, "x"):
            answer = check(bytes_of(text))
            kept = list(answer)
            answer.append(7)
            self.assertEqual(check(bytes_of(text)), kept)


class LongTexts(unittest.TestCase):
    def answered(self, text, answer):
        self.assertEqual(len(text), MOST_BYTES)
        handed = bytes_of(text)
        begin = time.perf_counter()
        self.assertEqual(check(handed), answer)
        self.assertLess(time.perf_counter() - begin, 5)

    def test_of_one_sign(self):
        for sign in "\n \t#":
            self.answered(sign * MOST_BYTES, [0])
        for sign in "2-:a.A":
            self.answered(sign * MOST_BYTES, [-1, 1])

    def test_of_long_lines(self):
        self.answered(filled(EVEN + "2026-01-01\n a 1 EUR\n b\n#", "#"), [0])
        self.answered(filled(EVEN + "2026-01-01\n ", "a:"), [-1, 5])
        self.answered(filled(EVEN + "2026-01-01\n a ", "1"), [-1, 5])
        self.answered(filled(EVEN + "2026-01-01\n a ", "1 "), [-1, 5])
        self.answered(filled(EVEN + "2026-01-01 ", "x"), [-1, 5])

    def test_of_entries(self):
        self.answered(filled(zero_entries(4096), "\n"), [0])
        self.answered(filled(zero_entries(4096), "\t"), [0])
        self.answered(filled(entry(["a 1 A", "b"]) * 2048, " \n"), [0])
        self.answered(filled("", "2026-01-01\n a 0 A\n b\n"), [-1, 9362])


if __name__ == "__main__":
    unittest.main()
