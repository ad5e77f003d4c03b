"""How amounts are told, for balance and moves: mixed with a case that has `as_told`."""


class Told:
    def test_whole(self):
        for amount in ("1", "9", "10", "100", "20", "1234567890", "-1", "-10", "-1000"):
            self.as_told(amount, amount)

    def test_a_rest_of_one_to_four_digits(self):
        for rest in ("1", "12", "123", "1234", "01", "001", "0001", "9", "99", "999", "9999", "101", "1001", "0101"):
            for whole in ("0", "7", "10", "-0", "-7", "-10"):
                self.as_told(f"{whole}.{rest}", f"{whole}.{rest}")

    def test_zeros_behind(self):
        for written, told in (
            ("12.50", "12.5"), ("3.0000", "3"), ("3.0", "3"), ("10.00", "10"), ("0.10", "0.1"), ("0.0100", "0.01"),
            ("-0.5000", "-0.5"), ("-12.340", "-12.34"), ("-100.000", "-100"), ("100.0010", "100.001"),
        ):
            self.as_told(written, told)

    def test_between_minus_1_and_1(self):
        for amount in ("0.5", "0.05", "0.0001", "0.9999", "-0.5", "-0.05", "-0.0001", "-0.9999"):
            self.as_told(amount, amount)

    def test_14_digits(self):
        for amount in ("49999999999999", "49999999999999.9999", "10000000000000.0001"):
            self.as_told(amount, amount)
            self.as_told("-" + amount, "-" + amount)
