import itertools
import unittest

from tests.support import EXAMPLE, BalanceCase, entry


class Example(BalanceCase):
    def at_each_depth(self, account, lines, deeper):
        """What is told at depth 1, and what at each depth from 2 to 8."""
        self.told(EXAMPLE, lines, account=account, depth=1)
        for depth in range(2, 9):
            self.told(EXAMPLE, deeper, account=account, depth=depth)

    def test_no_account_at_all(self):
        self.at_each_depth(
            "",
            ["assets 87.66 EUR", "assets 20 USD", "equity -100 EUR", "equity -20 USD", "expenses 12.34 EUR"],
            [
                "assets:cash 87.66 EUR", "assets:dollars 20 USD", "equity -100 EUR", "equity -20 USD",
                "expenses:food 12.34 EUR",
            ],
        )

    def test_an_account_that_stands_there(self):
        self.at_each_depth("assets:cash", ["assets 87.66 EUR"], ["assets:cash 87.66 EUR"])
        self.at_each_depth("assets:dollars", ["assets 20 USD"], ["assets:dollars 20 USD"])
        self.at_each_depth("equity", *[["equity -100 EUR", "equity -20 USD"]] * 2)
        self.at_each_depth("expenses:food", ["expenses 12.34 EUR"], ["expenses:food 12.34 EUR"])

    def test_an_account_that_others_are_within(self):
        self.at_each_depth(
            "assets", ["assets 87.66 EUR", "assets 20 USD"], ["assets:cash 87.66 EUR", "assets:dollars 20 USD"]
        )
        self.at_each_depth("expenses", ["expenses 12.34 EUR"], ["expenses:food 12.34 EUR"])

    def test_only_the_beginning_of_a_name(self):
        for account in ("assets:cas", "asset", "a", "e", "equit", "expenses:foo", "assets:c"):
            self.at_each_depth(account, [], [])

    def test_one_that_nobody_moves(self):
        for account in ("liabilities", "assets:cash:box", "assets:cashes", "equity:own", "cash", "food:expenses"):
            self.at_each_depth(account, [], [])

    def test_without_the_last_line_feed(self):
        self.assertEqual(self.ask(EXAMPLE[:-1]), self.ask(EXAMPLE))

    def test_its_bytes(self):
        # Written out, so that nothing of the tests' own stands between.
        self.assertEqual(
            self.ask(EXAMPLE, account="assets:cash", depth=1),
            [17, 97, 115, 115, 101, 116, 115, 32, 56, 55, 46, 54, 54, 32, 69, 85, 82, 10],
        )


class Accounts(BalanceCase):
    def test_within_at_every_depth(self):
        names = ["a", "b", "c", "d", "e", "f", "g", "h"]
        accounts = [":".join(names[:count]) for count in range(1, 9)]
        text = entry([f"{account} {10 ** place} A" for place, account in enumerate(accounts)] + ["z"])
        for count in range(1, 9):
            lines = [f"{account} {10 ** place} A" for place, account in enumerate(accounts)]
            self.told(text, lines[count - 1:], account=accounts[count - 1])

    def test_a_name_behind_the_account_is_another(self):
        others = ["a-", "a-b", "a0", "a_", "ab", "ab:c", "b", "b:a"]
        text = entry(["a 1 A", "a:b 2 A"] + [other + " 4 A" for other in others] + ["z"])
        self.told(text, ["a 1 A", "a:b 2 A"], account="a")
        self.told(text, ["a:b 2 A"], account="a:b")
        self.told(text, ["b 4 A", "b:a 4 A"], account="b")

    def test_within_but_not_moved_itself(self):
        self.told(entry(["a:b:c 1 A", "a:bc -1 A"]), ["a:b:c 1 A"], account="a:b")

    def test_the_longest(self):
        longest = ":".join(["z" + "9" * 30] * 8)
        text = entry([longest + " 1 A", "a"])
        self.assertEqual(len(longest), 255)
        self.told(text, [longest + " 1 A"], account=longest)
        self.told(text, [longest[:31] + " 1 A"], account=longest, depth=1)
        self.told(text, [longest[:-32] + " 1 A"], account=longest, depth=7)

    def test_nothing_to_ask(self):
        for text in ("", "\n", "# x", " \t\n"):
            self.told(text, [])
            self.told(text, [], account="a", depth=1)


class Days(BalanceCase):
    TEXT = (
        entry(["a 1 A", "b"], "2026-03-01") + entry(["a 2 A", "b"], "2025-12-31")
        + entry(["a 4 A", "b"], "2026-02-28") + entry(["a 8 A", "b"], "2026-03-01")
        + entry(["a 16 A", "b"], "2026-11-30") + entry(["a 32 A", "b"], "2026-03-02")
    )

    def up_to(self, day, total):
        self.told(self.TEXT, [f"a {total} A", f"b -{total} A"] if total else [], day=day)

    def test_the_day_itself_counts(self):
        self.up_to("2025-12-31", 2)
        self.up_to("2026-02-28", 6)
        self.up_to("2026-03-01", 15)
        self.up_to("2026-03-02", 47)
        self.up_to("2026-11-30", 63)

    def test_the_day_after_does_not(self):
        self.up_to("2026-01-01", 2)
        self.up_to("2026-02-27", 2)
        self.up_to("2026-11-29", 47)

    def test_before_all(self):
        for day in ("1583-01-01", "2024-12-31", "2025-12-30"):
            self.up_to(day, 0)

    def test_after_all(self):
        for day in ("2026-12-01", "2027-01-01", "9999-12-31"):
            self.up_to(day, 63)

    def test_each_part_of_a_day_counts(self):
        text = entry(["a 1 A", "b"], "2025-06-15")
        for day in ("2025-06-15", "2025-06-16", "2025-07-01", "2026-01-01"):
            self.told(text, ["a 1 A"], account="a", day=day)
        for day in ("2025-06-14", "2025-05-31", "2024-12-31"):
            self.told(text, [], account="a", day=day)

    def test_the_first_and_the_last_there_is(self):
        text = entry(["a 1 A", "b"], "9999-12-31") + entry(["a 2 A", "b"], "1583-01-01")
        self.told(text, ["a 2 A"], account="a", day="1583-01-01")
        self.told(text, ["a 2 A"], account="a", day="9999-12-30")
        self.told(text, ["a 3 A"], account="a", day="9999-12-31")

    def test_a_text_or_a_remark_behind_the_day(self):
        text = "2026-01-01 2026-01-03\n a 1 A\n b\n2026-01-02# 2026-01-01\n a 2 A\n b\n"
        self.told(text, ["a 1 A", "b -1 A"], day="2026-01-01")
        self.told(text, ["a 3 A", "b -3 A"], day="2026-01-02")

    def test_with_an_account(self):
        self.told(EXAMPLE, ["assets:cash 100 EUR"], account="assets:cash", day="2026-01-05")
        self.told(EXAMPLE, [], account="expenses", day="2026-01-05")


class Depth(BalanceCase):
    TEXT = entry(["a:b:c 1 A", "a:b:d 2 A", "a:e:c -3 A", "a:e 5 A", "f:g -5 A", "a 7 B", "f -7 B"])

    def test_accounts_that_fall_together(self):
        self.told(self.TEXT, ["a 5 A", "a 7 B", "f -5 A", "f -7 B"], depth=1)
        self.told(self.TEXT, ["a 7 B", "a:b 3 A", "a:e 2 A", "f -7 B", "f:g -5 A"], depth=2)
        for depth in range(3, 9):
            self.told(
                self.TEXT,
                ["a 7 B", "a:b:c 1 A", "a:b:d 2 A", "a:e 5 A", "a:e:c -3 A", "f -7 B", "f:g -5 A"],
                depth=depth,
            )

    def test_sums_that_come_out_at_0(self):
        text = entry(["a:b 1 A", "a:c -1 A", "a:b 2 B", "d:e -2 B"])
        self.told(text, ["a 2 B", "d -2 B"], depth=1)
        self.told(text, ["a:b 1 A", "a:b 2 B", "a:c -1 A", "d:e -2 B"], depth=2)
        self.told(entry(["a:b 1 A", "a:c -1 A"]), [], depth=1)

    def test_an_account_with_fewer_names(self):
        text = entry(["a 1 A", "a:b 2 A", "a:b:c 4 A", "d"])
        self.told(text, ["a 7 A", "d -7 A"], depth=1)
        self.told(text, ["a 1 A", "a:b 6 A", "d -7 A"], depth=2)
        self.told(text, ["a 1 A", "a:b 2 A", "a:b:c 4 A", "d -7 A"], depth=3)

    def test_an_account_with_more_names_than_depth(self):
        self.told(self.TEXT, ["a 3 A"], account="a:b", depth=1)
        self.told(self.TEXT, ["a 1 A"], account="a:b:c", depth=1)
        self.told(self.TEXT, ["a:b 1 A"], account="a:b:c", depth=2)

    def test_names_that_only_begin_alike_do_not_fall_together(self):
        text = entry(["ab:c 1 A", "a:b 2 A", "a-b:c 4 A", "a", "abc:c 8 A"])
        self.told(text, ["a -13 A", "a-b 4 A", "ab 1 A", "abc 8 A"], depth=1)

    def test_eight_names(self):
        deep = "a:a:a:a:a:a:a:"
        text = entry([deep + "b 1 A", deep + "c 2 A", "z"])
        for depth in range(1, 8):
            self.told(text, [":".join(["a"] * depth) + " 3 A"], account="a", depth=depth)
        self.told(text, [deep + "b 1 A", deep + "c 2 A"], account="a", depth=8)


class Order(BalanceCase):
    def test_what_stands_behind_the_common_part(self):
        accounts = ["a", "a-", "a-b", "a0", "a9", "a:b", "a:b-", "a:b0", "a:b:c", "a:b_", "a:ba", "a_", "aa", "az", "b"]
        written = [account + " 1 A" for account in accounts]
        for movements in (written, written[::-1], written[1::2] + written[::2]):
            self.told(entry(movements + ["z"]), written + ["z -15 A"])

    def test_at_several_depths(self):
        text = entry([
            "a:b:x 1 A", "a:b-c:x 1 A", "ab:c 1 A", "a-b:c 1 A", "a:b0 1 A", "a 1 A", "a:ba:x 1 A", "a0:x 1 A",
            "a_:x 1 A", "a:b_:x 1 A", "z",
        ])
        self.told(text, ["a 6 A", "a-b 1 A", "a0 1 A", "a_ 1 A", "ab 1 A", "z -10 A"], depth=1)
        self.told(
            text,
            [
                "a 1 A", "a-b:c 1 A", "a0:x 1 A", "a:b 1 A", "a:b-c 1 A", "a:b0 1 A", "a:b_ 1 A", "a:ba 1 A",
                "a_:x 1 A", "ab:c 1 A", "z -10 A",
            ],
            depth=2,
        )
        self.told(
            text,
            [
                "a 1 A", "a-b:c 1 A", "a0:x 1 A", "a:b-c:x 1 A", "a:b0 1 A", "a:b:x 1 A", "a:b_:x 1 A", "a:ba:x 1 A",
                "a_:x 1 A", "ab:c 1 A", "z -10 A",
            ],
            depth=3,
        )

    def test_kinds(self):
        kinds = ["A", "AA", "AAZ", "AB", "AZZZZZZZ", "B", "BA", "Z"]
        written = [f"a 1 {kind}" for kind in kinds]
        for movements in (written, written[::-1], written[1::2] + written[::2]):
            self.told(entry(movements + ["b"]), written, account="a")

    def test_accounts_ahead_of_kinds(self):
        text = entry(["b 1 A", "a 1 C", "a:b 1 A", "a 1 B", "b 1 B", "ab 1 A", "z"])
        self.told(text, ["a 1 B", "a 1 C", "a:b 1 A", "ab 1 A", "b 1 A", "b 1 B", "z -3 A", "z -2 B", "z -1 C"])

    def test_sums_and_their_sizes_do_not_matter(self):
        self.told(entry(["c 1 A", "a 9 A", "b 5 A", "d -15 A"]), ["a 9 A", "b 5 A", "c 1 A", "d -15 A"])

    def test_the_order_of_the_text_does_not_matter(self):
        movements = ["a:b 1 A", "a -1 B", "ab 2 A", "a-b"]
        lines = ["a -1 B", "a-b -3 A", "a-b 1 B", "a:b 1 A", "ab 2 A"]
        for shuffled in itertools.permutations(movements):
            self.told(entry(shuffled), lines)
        entries = [entry(["b 1 A", "a"], "2026-01-03"), entry(["c 1 A", "b"], "2026-01-01"), entry(["a 3 B", "c"])]
        for shuffled in itertools.permutations(entries):
            self.told("".join(shuffled), ["a -1 A", "a 3 B", "c 1 A", "c -3 B"])


class WithoutAmount(BalanceCase):
    def test_one_kind(self):
        self.told(entry(["a 1 A", "b 2 A", "c"]), ["a 1 A", "b 2 A", "c -3 A"])
        self.told(entry(["a -1.5 A", "c"]), ["a -1.5 A", "c 1.5 A"])

    def test_several_kinds(self):
        text = entry(["a 1 C", "a -2 A", "b 3 B", "d", "b 1 C"])
        self.told(text, ["d 2 A", "d -3 B", "d -2 C"], account="d")

    def test_only_the_kinds_that_do_not_come_out(self):
        text = entry(["a 1 A", "b -1 A", "a 1 B", "c"])
        self.told(text, ["a 1 A", "a 1 B", "b -1 A", "c -1 B"])

    def test_none(self):
        text = entry(["a 1 A", "b -1 A", "c"])
        self.told(text, ["a 1 A", "b -1 A"])
        self.told(text, [], account="c")
        self.told(entry(["c", "a 0 A"]), [])

    def test_at_any_place(self):
        movements = ["a 1 A", "b 2 B", "c -0.5 A"]
        for place in range(4):
            text = entry(movements[:place] + ["d"] + movements[place:])
            self.told(text, ["d -0.5 A", "d -2 B"], account="d")

    def test_it_belongs_to_its_own_account(self):
        text = entry(["a:b 1 A", "c:d"]) + entry(["e", "a:b 2 A"]) + entry(["a:b 4 A", "c:d -4 A"])
        self.told(text, ["a:b 7 A", "c:d -5 A", "e -2 A"])
        self.told(text, ["c -5 A"], account="c", depth=1)

    def test_an_account_that_stands_with_an_amount_too(self):
        self.told(entry(["a 3 A", "a", "b -1 A"]), ["a 1 A", "b -1 A"])
        self.told(entry(["a 3 A", "a"]), [])

    def test_it_belongs_to_its_entrys_day(self):
        text = entry(["a 1 A", "b"], "2026-01-02") + entry(["c 2 A", "b"], "2026-01-01")
        self.told(text, ["b -2 A"], account="b", day="2026-01-01")
        self.told(text, ["b -3 A"], account="b", day="2026-01-02")
        self.told(text + entry(["b", "a 4 A"], "2026-01-03"), ["b -3 A"], account="b", day="2026-01-02")


if __name__ == "__main__":
    unittest.main()
