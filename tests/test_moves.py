import unittest

from tests.support import EXAMPLE, MovesCase, entry


class Example(MovesCase):
    def test_no_account_at_all(self):
        self.told(EXAMPLE, [
            "2026-01-05 assets:cash 100 EUR 100",
            "2026-01-05 assets:dollars 20 USD 20",
            "2026-01-05 equity -100 EUR 0",
            "2026-01-05 equity -20 USD 0",
            "2026-01-06 expenses:food 12.34 EUR 12.34",
            "2026-01-06 assets:cash -12.34 EUR 0",
        ])

    def test_an_account_that_stands_there(self):
        self.told(
            EXAMPLE,
            ["2026-01-05 assets:cash 100 EUR 100", "2026-01-06 assets:cash -12.34 EUR 87.66"],
            account="assets:cash",
        )
        self.told(EXAMPLE, ["2026-01-05 assets:dollars 20 USD 20"], account="assets:dollars")
        self.told(EXAMPLE, ["2026-01-05 equity -100 EUR -100", "2026-01-05 equity -20 USD -20"], account="equity")
        self.told(EXAMPLE, ["2026-01-06 expenses:food 12.34 EUR 12.34"], account="expenses:food")

    def test_an_account_that_others_are_within(self):
        self.told(
            EXAMPLE,
            [
                "2026-01-05 assets:cash 100 EUR 100", "2026-01-05 assets:dollars 20 USD 20",
                "2026-01-06 assets:cash -12.34 EUR 87.66",
            ],
            account="assets",
        )
        self.told(EXAMPLE, ["2026-01-06 expenses:food 12.34 EUR 12.34"], account="expenses")

    def test_only_the_beginning_of_a_name(self):
        for account in ("assets:cas", "asset", "a", "e", "equit", "expenses:foo", "assets:c"):
            self.told(EXAMPLE, [], account=account)

    def test_one_that_nobody_moves(self):
        for account in ("liabilities", "assets:cash:box", "assets:cashes", "equity:own", "cash", "food:expenses"):
            self.told(EXAMPLE, [], account=account)
            self.assertEqual(self.ask(EXAMPLE, account=account), [0])

    def test_up_to_a_day(self):
        self.told(EXAMPLE, ["2026-01-05 assets:cash 100 EUR 100"], account="assets:cash", day="2026-01-05")
        self.told(EXAMPLE, [], account="expenses", day="2026-01-05")

    def test_without_the_last_line_feed(self):
        self.assertEqual(self.ask(EXAMPLE[:-1]), self.ask(EXAMPLE))

    def test_its_bytes(self):
        # Written out, so that nothing of the tests' own stands between.
        self.assertEqual(
            self.ask(EXAMPLE, account="expenses"),
            [
                41, 50, 48, 50, 54, 45, 48, 49, 45, 48, 54, 32, 101, 120, 112, 101, 110, 115, 101, 115, 58, 102, 111,
                111, 100, 32, 49, 50, 46, 51, 52, 32, 69, 85, 82, 32, 49, 50, 46, 51, 52, 10,
            ],
        )


class Accounts(MovesCase):
    def test_told_whole(self):
        accounts = [":".join("abcdefgh"[:count]) for count in range(1, 9)]
        text = entry([f"{account} {10 ** place} A" for place, account in enumerate(accounts)] + ["z"])
        for count in range(1, 9):
            lines = []
            total = 0
            for place in range(count - 1, 8):
                total += 10 ** place
                lines.append(f"2026-01-01 {accounts[place]} {10 ** place} A {total}")
            self.told(text, lines, account=accounts[count - 1])

    def test_a_name_behind_the_account_is_another(self):
        others = ["a-", "a-b", "a0", "a_", "ab", "ab:c", "b", "b:a"]
        text = entry(["a 1 A"] + [other + " 4 A" for other in others] + ["a:b 2 A", "z"])
        self.told(text, ["2026-01-01 a 1 A 1", "2026-01-01 a:b 2 A 3"], account="a")
        self.told(text, ["2026-01-01 a:b 2 A 2"], account="a:b")
        self.told(text, ["2026-01-01 b 4 A 4", "2026-01-01 b:a 4 A 8"], account="b")

    def test_the_longest(self):
        longest = ":".join(["z" + "9" * 30] * 8)
        self.assertEqual(len(longest), 255)
        text = entry([longest + " 1 LONGKIND", "a"])
        for account in (longest, longest[:-32], longest[:31]):
            self.told(text, [f"2026-01-01 {longest} 1 LONGKIND 1"], account=account)

    def test_nothing_to_ask(self):
        for text in ("", "\n", "# x", " \t\n"):
            self.told(text, [])
            self.told(text, [], account="a")


class Order(MovesCase):
    def test_days_out_of_order(self):
        days = ["2026-03-01", "2025-12-31", "9999-12-31", "2026-02-28", "1583-01-01", "2026-11-30", "2026-03-02"]
        text = "".join([entry([f"a {place + 1} A", "b"], day) for place, day in enumerate(days)])
        self.told(
            text,
            [
                "1583-01-01 a 5 A 5", "2025-12-31 a 2 A 7", "2026-02-28 a 4 A 11", "2026-03-01 a 1 A 12",
                "2026-03-02 a 7 A 19", "2026-11-30 a 6 A 25", "9999-12-31 a 3 A 28",
            ],
            account="a",
        )

    def test_entries_of_the_same_day_with_others_between(self):
        text = (
            entry(["z 1 A", "y -1 A"], "2026-01-02") + entry(["d 2 A", "c -2 A"], "2026-01-01")
            + entry(["x 3 A", "w -3 A"], "2026-01-02") + entry(["e 4 A", "f -4 A"], "2026-01-03")
            + entry(["b 5 A", "a -5 A"], "2026-01-01") + entry(["a 6 A", "z -6 A"], "2026-01-02")
        )
        self.told(text, [
            "2026-01-01 d 2 A 2", "2026-01-01 c -2 A 0", "2026-01-01 b 5 A 5", "2026-01-01 a -5 A 0",
            "2026-01-02 z 1 A 1", "2026-01-02 y -1 A 0", "2026-01-02 x 3 A 3", "2026-01-02 w -3 A 0",
            "2026-01-02 a 6 A 6", "2026-01-02 z -6 A 0",
            "2026-01-03 e 4 A 4", "2026-01-03 f -4 A 0",
        ])

    def test_movements_of_the_same_day_as_they_stand(self):
        movements = [("c", 2, "B"), ("a", -3, "A"), ("b", 9, "A"), ("a", -2, "B"), ("c", -6, "A"), ("a:b", 0, "B")]
        text = entry([f"{account} {amount} {kind}" for account, amount, kind in movements])
        self.told(text, [
            "2026-01-01 c 2 B 2", "2026-01-01 a -3 A -3", "2026-01-01 b 9 A 6", "2026-01-01 a -2 B 0",
            "2026-01-01 c -6 A 0", "2026-01-01 a:b 0 B 0",
        ])

    def test_the_same_movement_twice(self):
        text = entry(["a 1 A", "a 1 A", "b -1 A", "b -1 A"]) * 2
        self.told(text, [f"2026-01-01 a 1 A {total}" for total in (1, 2, 3, 4)], account="a")

    def test_a_text_or_a_remark_behind_the_day(self):
        text = "2026-01-02 2026-01-01\n a 1 A # x\n b\n2026-01-01# 2026-01-03\n\ta\t2\tA\n b\n"
        self.told(text, ["2026-01-01 a 2 A 2", "2026-01-02 a 1 A 3"], account="a")


class Days(MovesCase):
    TEXT = (
        entry(["a 1 A", "b"], "2026-03-01") + entry(["a 2 A", "b"], "2025-12-31")
        + entry(["a 4 A", "b"], "2026-03-02")
    )
    LINES = ["2025-12-31 a 2 A 2", "2026-03-01 a 1 A 3", "2026-03-02 a 4 A 7"]

    def up_to(self, day, count):
        self.told(self.TEXT, self.LINES[:count], account="a", day=day)

    def test_the_day_itself_counts(self):
        self.up_to("2025-12-31", 1)
        self.up_to("2026-03-01", 2)
        self.up_to("2026-03-02", 3)

    def test_the_day_after_does_not(self):
        self.up_to("2026-01-01", 1)
        self.up_to("2026-02-28", 1)

    def test_before_all(self):
        for day in ("1583-01-01", "2024-12-31", "2025-12-30"):
            self.up_to(day, 0)
            self.assertEqual(self.ask(self.TEXT, day=day), [0])

    def test_after_all(self):
        for day in ("2026-03-03", "2026-12-01", "2027-01-01", "9999-12-31"):
            self.up_to(day, 3)

    def test_each_part_of_a_day_counts(self):
        text = entry(["a 1 A", "b"], "2025-06-15")
        for day in ("2025-06-15", "2025-06-16", "2025-07-01", "2026-01-01"):
            self.told(text, ["2025-06-15 a 1 A 1"], account="a", day=day)
        for day in ("2025-06-14", "2025-05-31", "2024-12-31"):
            self.told(text, [], account="a", day=day)

    def test_the_first_and_the_last_there_is(self):
        text = entry(["a 1 A", "b"], "9999-12-31") + entry(["a 2 A", "b"], "1583-01-01")
        self.told(text, ["1583-01-01 a 2 A 2"], account="a", day="1583-01-01")
        self.told(text, ["1583-01-01 a 2 A 2"], account="a", day="9999-12-30")
        self.told(text, ["1583-01-01 a 2 A 2", "9999-12-31 a 1 A 3"], account="a", day="9999-12-31")


if __name__ == "__main__":
    unittest.main()
