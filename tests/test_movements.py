import unittest

from evenbook.forms import is_amount
from tests.support import CheckCase, bytes_of


class Accounts(CheckCase):
    def good(self, account):
        self.journal(f"2026-01-01\n {account} 1 EUR\n other -1 EUR\n")
        self.journal(f"2026-01-01\n other 1 EUR\n {account}\n")

    def bad(self, account):
        self.wrong_at_last(f"2026-01-01\n {account} 1 EUR")
        self.wrong_at_last(f"2026-01-01\n other 1 EUR\n {account}")

    def test_how_many_names(self):
        for count in range(1, 9):
            self.good(":".join(["a"] * count))
        for count in (9, 10, 16, 17):
            self.bad(":".join(["a"] * count))

    def test_how_long_a_name(self):
        for length in (1, 2, 30, 31):
            self.good("a" * length)
            self.good("b:" + "a" * length)
            self.good("a" * length + ":b")
        for length in (32, 33, 100):
            self.bad("a" * length)
            self.bad("b:" + "a" * length)
            self.bad("a" * length + ":b")
        self.good(":".join(["z" + "9" * 30] * 8))

    def test_what_a_name_begins_with(self):
        for byte in range(256):
            if chr(byte) in " \t\n#":
                continue
            if "a" <= chr(byte) <= "z":
                self.good(chr(byte))
                self.good("a:" + chr(byte) + "b")
            else:
                self.bad(chr(byte))
                self.bad(chr(byte) + "b")
                self.bad("a:" + chr(byte) + "b")

    def test_what_a_name_holds(self):
        for byte in range(256):
            sign = chr(byte)
            if sign in " \t\n#:":
                continue
            if "a" <= sign <= "z" or "0" <= sign <= "9" or sign in "_-":
                self.good("a" + sign)
                self.good("a" + sign + "b:c" + sign)
            else:
                self.bad("a" + sign)
                self.bad("a" + sign + "b")
                self.bad("c:a" + sign + "b")

    def test_empty_names(self):
        for account in (":", "a:", ":a", "a::b", "::", "a:b:"):
            self.bad(account)

    def test_capitals(self):
        for account in ("A", "Assets", "aB", "a:B", "a:bC"):
            self.bad(account)


class Amounts(CheckCase):
    def good(self, amount):
        self.journal(f"2026-01-01\n a {amount} EUR\n b\n")

    def bad(self, amount):
        self.wrong_at_last(f"2026-01-01\n a {amount} EUR")

    def test_digits(self):
        for amount in ("0", "1", "9", "10", "90", "1234567890"):
            self.good(amount)

    def test_signs(self):
        for amount in ("-1", "-0", "-0.5", "-10.0001"):
            self.good(amount)
        for amount in ("--1", "+1", "-", "1-", "-+1", "1-1", "(1)", "- 1"):
            self.bad(amount)

    def test_how_many_digits(self):
        self.good("1" * 14)
        self.good("-" + "1" * 14 + ".1111")
        for amount in ("1" * 15, "-" + "1" * 15, "1" * 15 + ".5", "1" * 40, "0" * 14):
            self.bad(amount)

    def test_fifteen_digits_are_no_amount(self):
        # check can't tell this from a size beyond its bound: both are wrong in the same line.
        self.assertTrue(is_amount(bytes_of("1" * 14)))
        self.assertFalse(is_amount(bytes_of("1" * 15)))

    def test_a_0_before_others(self):
        for amount in ("00", "01", "-00", "-01", "00.5", "01.5", "000"):
            self.bad(amount)

    def test_behind_the_point(self):
        for rest in ("0", "1", "00", "12", "000", "001", "0000", "0001", "9999"):
            for whole in ("0", "7", "-0", "-7", "70"):
                self.good(whole + "." + rest)
        for amount in ("1.", "-1.", "1.00000", "1.12345", ".5", "-.5", ".", "-.", "1.2.3", "1..2", "1.-2", "1.2.", "1,5"):
            self.bad(amount)

    def test_signs_that_are_no_digits(self):
        for byte in range(256):
            sign = chr(byte)
            if sign in " \t\n#" or "0" <= sign <= "9":
                continue
            self.bad("1" + sign)
            self.bad("1.1" + sign)
            if sign != "-":
                self.bad(sign + "1")
            if sign != ".":
                self.bad("1" + sign + "1")

    def test_what_they_are_worth(self):
        for one, other in (
            ("1", "-1.0000"), ("0.1", "-0.1000"), ("0.01", "-0.010"), ("0.0001", "-0.0001"), ("10", "-10.0"),
            ("0", "-0"), ("0", "0.000"), ("1234567890.0987", "-1234567890.0987"), ("5.05", "-5.05"),
        ):
            self.journal(f"2026-01-01\n a {one} EUR\n b {other} EUR\n")
        for one, other in (
            ("1", "1"), ("1", "-10"), ("0.1", "-0.01"), ("1", "-0.1"), ("1.1", "-1.01"), ("0.0001", "-0"),
            ("1000", "-1000.0001"), ("5.05", "-5.5"), ("-0.5", "-0.5"), ("0", "-0.0001"),
        ):
            self.wrong_at_end(f"2026-01-01\n a {one} EUR\n b {other} EUR\n")


class Kinds(CheckCase):
    def good(self, kind):
        self.journal(f"2026-01-01\n a 1 {kind}\n b -1 {kind}\n")

    def bad(self, kind):
        self.wrong_at_last(f"2026-01-01\n a 1 {kind}")

    def test_how_long(self):
        for length in range(1, 9):
            self.good("A" * length)
            self.good("Z" * length)
        for length in (9, 10, 30):
            self.bad("A" * length)

    def test_signs(self):
        for byte in range(256):
            sign = chr(byte)
            if sign in " \t\n#":
                continue
            if "A" <= sign <= "Z":
                self.good(sign)
            else:
                self.bad(sign)
                self.bad("A" + sign)
                self.bad(sign + "A")
                self.bad("A" + sign + "A")

    def test_one_that_begins_another_is_another(self):
        self.wrong_at_end("2026-01-01\n a 1 EU\n b -1 EUR\n")


class Words(CheckCase):
    def test_an_amount_without_a_kind(self):
        for words in ("a 1", "a -1", "a 1EUR", "a 1#EUR"):
            self.wrong_at_last("2026-01-01\n " + words)

    def test_a_kind_without_an_amount(self):
        self.wrong_at_last("2026-01-01\n a EUR")

    def test_words_too_many(self):
        for words in ("a 1 EUR x", "a 1 EUR 1 USD", "a 1 EUR EUR", "a b 1 EUR", "a 1 EUR ;", "a b c"):
            self.wrong_at_last("2026-01-01\n " + words)

    def test_words_in_another_order(self):
        for words in ("1 EUR a", "a EUR 1", "EUR 1 a", "1 EUR"):
            self.wrong_at_last("2026-01-01\n " + words)


if __name__ == "__main__":
    unittest.main()
