import unittest

from tests.support import EVEN, EXAMPLE, CheckCase


class Ordinary(CheckCase):
    def test_the_documents_example(self):
        self.journal(EXAMPLE)

    def test_nothing(self):
        self.journal("")

    def test_lines_that_say_nothing(self):
        for text in ("\n", "\n\n\n", " ", "\t", " \t \n\t \n", "#", "#\n", " # x", "# 2026-13-01\n\n"):
            self.journal(text)

    def test_entries_in_any_order_of_days(self):
        self.journal(EVEN + EVEN.replace("2026", "2025") + EVEN.replace("2026", "2027") + EVEN)


class LineFeeds(CheckCase):
    def test_the_last_one_may_be_missing(self):
        self.journal(EXAMPLE[:-1])
        self.journal(EVEN[:-1])
        self.journal(EVEN + "# end")

    def test_the_last_line_counts_without_one(self):
        self.wrong(EVEN + "x", 4)
        self.wrong(EVEN + "x\n", 4)
        self.wrong(EVEN + " a 1", 4)

    def test_other_ends_of_lines_are_none(self):
        self.wrong(EVEN.replace("\n", "\r\n"), 1)
        self.wrong(EVEN.replace("\n", "\r"), 1)
        self.wrong("2026-01-01 \r\n a 1 EUR\r\n b -1 EUR\n", 2)
        self.wrong(EVEN + "\r\n", 4)
        self.wrong(EVEN + "\x0b\n", 4)
        self.wrong(EVEN + "\x0c\n", 4)


class Remarks(CheckCase):
    def test_at_a_lines_beginning(self):
        self.journal("# a\n" + EVEN + "#\n#2026-02-30\n## x\n")

    def test_between_movements(self):
        self.journal("2026-01-01\n# x\n a 1 EUR\n# y\n\n b -1 EUR\n")

    def test_within_a_line(self):
        self.journal("2026-01-01 shop # a # b\n a 1 EUR # x\n b -1 EUR#y 5\n")
        self.journal("2026-01-01 shop\n a 1 EUR\n # b 7 USD\n b -1 EUR\n")
        self.wrong_at_last("2026-01-01\n a 1 # EUR")
        self.wrong_at_last("2026-01-01\n a 1 EU R#")

    def test_straight_behind_a_day_or_an_account(self):
        self.journal("2026-01-01# x\n a 1 EUR\n b# -1 EUR\n")
        self.journal("2026-01-01 # x\n a 1 EUR\n b # -1 EUR\n")

    def test_that_cuts_a_day_or_an_account(self):
        self.wrong_at_last("2026-01-#01")
        self.wrong_at_last("2026-01-01\n a:#b 1 EUR")

    def test_of_any_bytes(self):
        others = "".join([chr(byte) for byte in range(256) if byte != 10])
        self.journal("2026-01-01 #" + others + "\n a 1 EUR #" + others + "\n b #" + others + "\n#" + others)


class Blanks(CheckCase):
    def test_spaces_and_tabs(self):
        self.journal("2026-01-01\tx\n\ta\t1\tEUR\n \t b \t -1 \t EUR \t \n")
        self.journal("2026-01-01 \n a 1 EUR \n b\t\n")

    def test_lines_of_blanks_alone(self):
        self.journal("\n2026-01-01\n \n\t\n a 1 EUR\n\n \t \n b -1 EUR\n\n")

    def test_no_other_byte_is_a_blank(self):
        for byte in range(256):
            if chr(byte) in " \t\n#":
                continue
            self.wrong_at_last("2026-01-01\n a 1" + chr(byte) + "EUR")
            self.wrong_at_last("2026-01-01" + chr(byte))
            self.wrong_at_last(EVEN + chr(byte) + "a 1 EUR")

    def test_every_line_counts(self):
        self.wrong("\n \n# x\nx\n", 4)
        self.wrong("\n\n" + EVEN + "\n# x\nx", 8)


class Order(CheckCase):
    def test_a_movement_ahead_of_any_entry(self):
        self.wrong_at_last(" a 1 EUR")
        self.wrong_at_last("\n# x\n\ta")

    def test_a_blank_ahead_of_a_day(self):
        self.wrong_at_last(" 2026-01-01")
        self.wrong_at_last(EVEN + " 2026-01-01")

    def test_no_blank_ahead_of_a_movement(self):
        self.wrong_at_last("2026-01-01\na 1 EUR")
        self.wrong_at_last(EVEN + "c")

    def test_the_first_wrong_line_is_told(self):
        self.wrong("x\ny\n", 1)
        self.wrong("2026-01-01\n a 1 EUR\n b 1\nx\n", 3)
        self.wrong("2026-01-01\n a 1 EUR\n b 1 EUR\n c 1 eur\n", 4)


if __name__ == "__main__":
    unittest.main()
