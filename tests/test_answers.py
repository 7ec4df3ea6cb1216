import copy
import unittest
from itertools import permutations, product

from helper import OwnListsTests, all_plans, lists_within, mill_of, refused_row, refuses, small_cases, words_of
from pocketmill.answers import answered, looked, priced, read_answer
from pocketmill.chains import bars, does
from pocketmill.errors import BadLetters, BadMill, BadText, BadWish, NotOneOrder
from pocketmill.least import least_plan
from pocketmill.mills import Mill
from pocketmill.pages import Page, page_text, read_page
from pocketmill.prices import cost_of
from pocketmill.trays import end_row
from pocketmill.wishes import Wish

# The words (1, 0), (0, 0), (0, 1) and (1, 1) have the codes 0 to 3 and cost 3, 7, 15 and 11.
PASSES = "pass q9 p7\npass p8 q5\n"
PRICES = "\nprice 0 5 1\nprice 1 2 10"
TEXT = PASSES + "letter a 1 0\nletter b 1 0\nletter c 1 0\nrow c a b" + PRICES
PLAN = "plan\na 0 0\nb 0 1\nc 1 0\nend c a b"
COST = "cost 21\na 0 0\nb 1 1\nc 1 0\nend c a b"
# Letter b has the one place (1, -1), letter c the one place (0, -5).
BARRED = PASSES + "letter a 1 0\nletter b 8 0\nletter c 6 1\nrow b c a" + PRICES
LOOSE = PASSES + "letter a 1 0\nletter b 8 0\nletter c 6 1\nany b c\nrow a" + PRICES
LOOSE_PLAN = "a 0 0\nb 0 0\nc 0\nend c b a"
NAMES = ["end", "plan", "c"]
WRONG_PAGES = [
    (BadText, "pass x"), (BadText, TEXT + "\nletter a 1 0"), (BadText, "any a"), (BadMill, "pass"),
    (BadMill, "pass\nletter a 0 0\nany a a"), (BadLetters, "letter a 0 0\nany a a"),
    (BadLetters, "letter a 1 1\nany a"), (BadWish, "letter a 1 0"), (BadWish, "letter a 1 0\nletter b 1 0\nany a a b"),
]


def pages():
    """Pages of small mills with their texts, prices mixed, letters called like words of answers."""
    for mill, letters, wish in small_cases():
        prices = [[(7 * number + 4 * at + 1) % 5 for at in range(len(pockets))]
                  for number, pockets in enumerate(mill.passes)]
        page = Page(mill, NAMES[:len(letters)], letters, wish, prices)
        yield page, page_text(page)


def plans_that_do(page):
    return [plan for plan in all_plans(page.mill, page.letters) if does(page.mill, page.letters, page.wish, plan)]


def plan_text(page, first, plan, end=None):
    row = end_row(page.mill, page.letters, plan) if end is None else end
    rows = [" ".join([name] + [str(pocket) for pocket in word]) for name, word in zip(page.names, plan)]
    return "\n".join([first] + rows + [" ".join(["end"] + [page.names[letter] for letter in row])])


class Answered(unittest.TestCase):
    def test_9_4_a_plan(self):
        self.assertEqual(answered(TEXT), PLAN)
        self.assertEqual(answered(LOOSE), "plan\n" + LOOSE_PLAN)

    def test_9_4_a_chain(self):
        self.assertEqual(answered("letter one 1 0\nletter two 1 0\nrow two one"), "chain two one")
        self.assertEqual(answered("pass q8\nletter one 9 0\nany one"), "chain one")
        self.assertEqual(answered(BARRED), "chain b c")

    def test_9_4_no_letters_and_no_passes(self):
        self.assertEqual(answered(""), "plan\nend")
        self.assertEqual(answered("pass q9 p3\npass p0"), "plan\nend")
        self.assertEqual(answered("letter b 9 0\nletter a 9 0\nany a b"), "plan\nb\na\nend b a")

    def test_9_4_letters_that_join_later(self):
        text = "pass q9 q9\npass q9 q9\nletter a 1 2\nletter b 1 0\nletter c 1 1\nrow b c a"
        self.assertEqual(answered(text), "plan\na\nb 0 0\nc 0\nend b c a")

    def test_9_4_the_least_plan_or_a_chain_that_bars(self):
        for page, text in pages():
            told = least_plan(page.mill, page.letters, page.wish)
            if told[0] == "plan":
                self.assertEqual(answered(text), plan_text(page, "plan", told[1]))
            else:
                first, *names = answered(text).split(" ")
                chain = [page.names.index(name) for name in names]
                self.assertEqual(first, "chain")
                self.assertIs(bars(page.mill, page.letters, page.wish, chain), True)
                self.assertEqual(plans_that_do(page), [])

    def test_9_4_prices_say_nothing(self):
        self.assertEqual(answered(TEXT.replace(PRICES, "")), PLAN)

    def test_9_4_refusals_of_the_page(self):
        for wanted, text in WRONG_PAGES:
            refuses(self, wanted, answered, text)
            refuses(self, wanted, priced, text)
        for function in (answered, priced):
            self.assertEqual(refused_row(self, function, TEXT + "\n\nwrong"), 10)

    def test_9_4_the_same_answer_each_time(self):
        for text in (TEXT, BARRED, "", LOOSE):
            self.assertEqual(answered(text), answered(text))


class Priced(unittest.TestCase):
    def test_9_4_a_cost(self):
        self.assertEqual(priced(TEXT), COST)
        self.assertEqual(priced(TEXT.replace(PRICES, "")).split("\n")[0], "cost 0")

    def test_9_4_a_chain(self):
        self.assertEqual(priced("letter one 1 0\nletter two 1 0\nrow two one"), "chain two one")
        self.assertEqual(priced("pass q8\nletter one 9 0\nany one"), "chain one")
        self.assertEqual(priced(BARRED), "chain b c")

    def test_9_4_no_letters_and_no_passes(self):
        self.assertEqual(priced(""), "cost 0\nend")
        self.assertEqual(priced("pass q9 p3\npass p0\nprice 0 5 5"), "cost 0\nend")
        self.assertEqual(priced("letter b 9 0\nletter a 9 0\nany b\nany a"), "cost 0\nb\na\nend b a")

    def test_9_4_the_least_cost(self):
        for page, text in pages():
            if not page.wish.one_order():
                continue
            costs = [cost_of(page.mill, page.letters, plan, page.prices) for plan in plans_that_do(page)]
            told = read_answer(page, priced(text))
            if not costs:
                self.assertEqual(told[0], "chain")
                self.assertIs(bars(page.mill, page.letters, page.wish, told[1]), True)
                continue
            self.assertEqual(told[:2], ("cost", min(costs)))
            self.assertIn(told[2], plans_that_do(page))
            self.assertEqual(cost_of(page.mill, page.letters, told[2], page.prices), told[1])
            self.assertEqual(priced(text), plan_text(page, f"cost {told[1]}", told[2]))

    def test_9_4_the_greatest_cost(self):
        names = "abcdefghijklmnopqrstuvwx"
        text = "pass q9\n" * 6 + "".join(f"price {number} 1{'0' * 30}\n" for number in range(6))
        text += "".join(f"letter {name} 1 0\n" for name in names) + "come " + " ".join(names)
        self.assertEqual(priced(text).split("\n")[0], "cost 144" + "0" * 30)
        self.assertEqual(looked(text, priced(text)), [])

    def test_9_4_wishes_that_are_not_one_order(self):
        refuses(self, NotOneOrder, priced, LOOSE)
        refuses(self, NotOneOrder, priced, "letter a 1 0\nletter b 1 0\nany a b")
        # Also where no plan brings the wish about.
        refuses(self, NotOneOrder, priced, "pass q1\nletter a 2 0\nletter b 1 0\nany a b")


class ReadAnswers(unittest.TestCase):
    def setUp(self):
        self.page = read_page(TEXT)

    def refused_at(self, text):
        return refused_row(self, read_answer, self.page, text)

    def test_9_5_each_form(self):
        self.assertEqual(read_answer(self.page, PLAN), ("plan", [(0, 0), (0, 1), (1, 0)], [2, 0, 1]))
        self.assertEqual(read_answer(self.page, COST), ("cost", 21, [(0, 0), (1, 1), (1, 0)], [2, 0, 1]))
        self.assertEqual(read_answer(self.page, "chain c a"), ("chain", [2, 0]))

    def test_9_5_numbers_are_not_looked_at_as_pockets(self):
        most = "9" * 31
        for rows, words in (
            ("a\nb\nc", [(), (), ()]), ("a 7\nb 1 2 3 4 5 6 7\nc", [(7,), (1, 2, 3, 4, 5, 6, 7), ()]),
            (f"a 0 {most}\nb 10\nc 0 0", [(0, 10 ** 31 - 1), (10,), (0, 0)]),
        ):
            self.assertEqual(read_answer(self.page, f"plan\n{rows}\nend a b c"), ("plan", words, [0, 1, 2]))
            self.assertEqual(read_answer(self.page, f"cost 0\n{rows}\nend a b c"), ("cost", 0, words, [0, 1, 2]))

    def test_9_5_ends_in_any_order(self):
        for row in permutations(range(3)):
            names = " ".join(self.page.names[letter] for letter in row)
            self.assertEqual(read_answer(self.page, f"plan\na\nb\nc\nend {names}")[2], list(row))

    def test_9_5_chains_of_one_name_or_more(self):
        for names, chain in (("a", [0]), ("c b a", [2, 1, 0]), ("b b", [1, 1]), ("a b a b a b", [0, 1, 0, 1, 0, 1])):
            self.assertEqual(read_answer(self.page, "chain " + names), ("chain", chain))

    def test_9_5_costs_of_1_to_40_figures(self):
        rows = "\na\nb\nc\nend a b c"
        for cost in ("0", "1", "10", "9" * 31, "1" + "0" * 31, "9" * 40, "1" + "0" * 39):
            self.assertEqual(read_answer(self.page, "cost " + cost + rows)[1], int(cost))
        for cost in ("", "00", "01", "0" * 40, "1" + "0" * 40, "9" * 41, "-1", "+1", "x", "1.0", "1 2", "1 ", " 1",
                     "1#"):
            self.assertEqual(self.refused_at("cost " + cost + rows), 1, cost)
        self.assertEqual(self.refused_at("cost" + rows), 1)

    def test_9_5_first_rows_that_are_none(self):
        rows = "\na\nb\nc\nend a b c"
        for first in ("", " ", "Plan", "plan ", " plan", "plan plan", "plan 1", "plan a", "plans", "a", "end",
                      "costs 1", "cost", "COST 1", "cost  1", "cost 1 ", "# plan", "plan # x", "plan#", "chain",
                      "chain ", "chain x", "chain a x", "chain a  b", "chain a ", " chain a", "chain  a", "chain A",
                      "chains a", "end a b c"):
            self.assertEqual(self.refused_at(first + rows), 1, first)
            self.assertEqual(self.refused_at(first), 1, first)
        self.assertEqual(self.refused_at("\n" + PLAN), 1)

    def test_9_5_letters_rows_that_are_none(self):
        rows = ["plan", "a 0 0", "b 0 1", "c 1 0", "end c a b"]
        for at in (1, 2, 3):
            name = rows[at][0]
            for wrong in ("", " ", "x", "x 0 0", "0 0", name + " ", name + " x", name + " 0 00", name + " 01",
                          name + " -1", name + "  0", name + " 0  1", " " + name + " 0 0", name + " 0 0 ", name + name,
                          name + " 0 " + "9" * 32, name + " " + name, name + " 0 # x", name + "#", "# x", "end", "plan",
                          "end a b c", name.upper() + " 0 0", rows[at % 3 + 1]):
                text = "\n".join(rows[:at] + [wrong] + rows[at + 1:])
                self.assertEqual(self.refused_at(text), at + 1, wrong)
                self.assertEqual(self.refused_at("\n".join(rows[:at] + [wrong])), at + 1, wrong)

    def test_9_5_end_rows_that_are_none(self):
        for end in ("", "end", "end a", "end a b", "end a b b", "end a b x", "end a b c a", "end a b c x", "end a  b c",
                    "end a b c ", " end a b c", "END a b c", "ends a b c", "a b c", "end 0 1 2", "end a b c # x",
                    "end a b c#", "c 1 0", "end a,b,c", "end A b c", "chain a b c"):
            for first in ("plan", "cost 5"):
                self.assertEqual(self.refused_at(f"{first}\na 0 0\nb 0 1\nc 1 0\n{end}"), 5, end)

    def test_9_5_texts_that_end_too_early(self):
        for whole in (PLAN, COST):
            rows = whole.split("\n")
            for many in range(1, 5):
                self.assertEqual(self.refused_at("\n".join(rows[:many])), many + 1)
                # Behind a line end there is a row, and it is not so.
                self.assertEqual(self.refused_at("\n".join(rows[:many]) + "\n"), many + 1)

    def test_9_5_the_empty_text(self):
        for page in (self.page, read_page(""), read_page("letter a 1 0\nany a")):
            self.assertEqual(refused_row(self, read_answer, page, ""), 1)
            self.assertEqual(refused_row(self, read_answer, page, "\n"), 1)

    def test_9_5_rows_behind_the_last_one(self):
        for more in ("\n", "\n\n", "\n ", "\n#", "\nend c a b", "\nd 0", "\nplan", "\n" + PLAN):
            self.assertEqual(self.refused_at(PLAN + more), 6)
            self.assertEqual(self.refused_at(COST + more), 6)
            self.assertEqual(self.refused_at("chain c a" + more), 2)

    def test_9_5_rows_in_another_order_left_out_or_twice(self):
        rows = PLAN.split("\n")
        for order in permutations(range(5)):
            if order != (0, 1, 2, 3, 4):
                wrong = next(at for at in range(5) if order[at] != at)
                self.assertEqual(self.refused_at("\n".join(rows[at] for at in order)), wrong + 1)
        for at in range(5):
            # What follows a row that is twice, or left out, is one row off.
            self.assertEqual(self.refused_at("\n".join(rows[:at] + rows[at:at + 1] + rows[at:])), at + 2)
            self.assertEqual(self.refused_at("\n".join(rows[:at] + rows[at + 1:])), at + 1)

    def test_9_5_the_first_row_that_is_not_so_is_told(self):
        self.assertEqual(self.refused_at("plan\na x\nb x\nc\nend"), 2)
        self.assertEqual(self.refused_at("plan\na\nb\nd\nend a b\n"), 4)
        self.assertEqual(self.refused_at("plan\na\nb\nc\nend a b\n"), 5)
        self.assertEqual(self.refused_at("chain x\n"), 1)

    def test_9_5_pages_without_letters(self):
        page = read_page("pass q9")
        self.assertEqual(read_answer(page, "plan\nend"), ("plan", [], []))
        self.assertEqual(read_answer(page, "cost 0\nend"), ("cost", 0, [], []))
        for text, row in (("plan", 2), ("plan\n", 2), ("plan\nend ", 2), ("plan\nend a", 2), ("plan\nend\n", 3),
                          ("cost 0", 2), ("chain", 1), ("chain ", 1), ("chain a", 1), ("end", 1)):
            self.assertEqual(refused_row(self, read_answer, page, text), row, text)

    def test_9_5_letters_called_like_first_words(self):
        page = read_page("letter end 1 0\nletter plan 1 0\nletter chain 1 0\nletter cost 1 0\nany end plan chain cost")
        told = "\nend 1\nplan\nchain 2 3\ncost 5\nend cost chain plan end"
        words = [(1,), (), (2, 3), (5,)]
        self.assertEqual(read_answer(page, "plan" + told), ("plan", words, [3, 2, 1, 0]))
        self.assertEqual(read_answer(page, "cost 5" + told), ("cost", 5, words, [3, 2, 1, 0]))
        self.assertEqual(read_answer(page, "chain chain end"), ("chain", [2, 0]))
        self.assertEqual(refused_row(self, read_answer, page, "chain" + told), 1)
        self.assertEqual(refused_row(self, read_answer, page, "plan\nend cost chain plan end"), 2)

    def test_9_5_answers_to_a_page_are_read_as_told(self):
        for page, text in pages():
            told = least_plan(page.mill, page.letters, page.wish)
            read = read_answer(page, answered(text))
            self.assertEqual(read[:2], told)
            if told[0] == "plan":
                self.assertEqual(read, told + (end_row(page.mill, page.letters, told[1]),))

    def test_0_3_kinds(self):
        told = read_answer(self.page, COST)
        self.assertEqual([type(part) for part in (told,) + told + tuple(told[2])],
                         [tuple, str, int, list, list, tuple, tuple, tuple])
        told = read_answer(self.page, PLAN)
        self.assertEqual([type(part) for part in (told,) + told], [tuple, str, list, list])
        told = read_answer(self.page, "chain a")
        self.assertEqual([type(part) for part in (told,) + told], [tuple, str, list])


class Looked(unittest.TestCase):
    def test_9_6_answers_to_a_page_have_no_fault(self):
        for text in (TEXT, BARRED, "", "pass q9", "letter a 1 0\nany a"):
            self.assertEqual(looked(text, answered(text)), [])
            self.assertEqual(looked(text, priced(text)), [])
        self.assertEqual(looked(LOOSE, answered(LOOSE)), [])
        for page, text in pages():
            self.assertEqual(looked(text, answered(text)), [])
            if page.wish.one_order():
                self.assertEqual(looked(text, priced(text)), [])

    def test_9_6_plans_that_do_have_no_fault(self):
        for page, text in pages():
            for plan in plans_that_do(page):
                self.assertEqual(looked(text, plan_text(page, "plan", plan)), [])

    def test_9_6_chains(self):
        for chain, faults in (
            ("b c", []), ("b", [("chain",)]), ("c b", [("chain",)]), ("b c a", [("chain",)]), ("b b", [("chain",)]),
            ("a", [("chain",)]), ("b a", [("chain",)]), ("c a", [("chain",)]),
        ):
            self.assertEqual(looked(BARRED, "chain " + chain), faults)
        for chain in ("a", "c a b", "c a", "b a c"):
            self.assertEqual(looked(TEXT, "chain " + chain), [("chain",)])

    def test_9_6_all_chains_of_small_pages(self):
        for page, text in pages():
            for many in range(1, len(page.names) + 2):
                for chain in product(range(len(page.names)), repeat=many):
                    told = looked(text, " ".join(["chain"] + [page.names[letter] for letter in chain]))
                    barred = bars(page.mill, page.letters, page.wish, list(chain))
                    self.assertEqual(told, [] if barred else [("chain",)])

    def test_9_6_words(self):
        for words, names in (
            (("a 0 0", "b 0 2", "c 1 0"), "b"), (("a 0", "b 0 1", "c 1 0"), "a"), (("a 0 0", "b 0 1", "c"), "c"),
            (("a 0 0 0", "b 0 1", "c 1 0"), "a"), (("a 2 0", "b 2 0", "c 2 0"), "abc"), (("a", "b", "c 1 0"), "ab"),
            (("a " + "9" * 31 + " 0", "b 0 1", "c 0 7"), "ac"), (("a 0 0", "b 0 1", "c 1 0 0 0 0 0"), "c"),
        ):
            faults = [("word", name) for name in names]
            for first in ("plan", "cost 21", "cost 0"):
                # Neither the end nor the wish nor the cost is looked at where a word isn't one.
                for end in ("end c a b", "end a b c"):
                    self.assertEqual(looked(TEXT, "\n".join((first,) + words + (end,))), faults)

    def test_9_6_words_that_do_not_fit(self):
        text = PASSES + "letter a 8 0\nletter b 6 1\nletter c 9 2\nrow a\nany b\nany c"
        self.assertEqual(looked(text, "plan\na 0 0\nb 0\nc\nend b a c"), [("wish", "b", "a")])
        for words, names in (
            (("a 1 0", "b 0", "c"), "a"), (("a 0 1", "b 0", "c"), "a"), (("a 0 0", "b 1", "c"), "b"),
            (("a 1 1", "b 1", "c 0"), "abc"), (("a 0 0", "b 0 0", "c"), "b"),
        ):
            faults = [("word", name) for name in names]
            self.assertEqual(looked(text, "\n".join(("plan",) + words + ("end a b c",))), faults)

    def test_9_6_the_end(self):
        for first, rows in (("plan", "a 0 0\nb 0 1\nc 1 0"), ("cost 21", "a 0 0\nb 1 1\nc 1 0")):
            for end in permutations("abc"):
                faults = [] if end == ("c", "a", "b") else [("end",)]
                self.assertEqual(looked(TEXT, f"{first}\n{rows}\nend {' '.join(end)}"), faults)

    def test_9_6_the_wish(self):
        # All in one queue: the row is a, b, c, and b is the first that is wished behind its next neighbour.
        for first in ("plan", "cost 45"):
            faults = [("wish", "b", "c")] + ([("cost",)] if first != "plan" else [])
            self.assertEqual(looked(TEXT, first + "\na 0 1\nb 0 1\nc 0 1\nend a b c"), faults)
        self.assertEqual(looked(TEXT, "plan\na 0 1\nb 0 0\nc 1 0\nend c b a"), [("wish", "b", "a")])

    def test_9_6_the_wish_is_looked_at_in_the_row_that_the_plan_has(self):
        # The end row that is told would keep the wish.
        self.assertEqual(looked(TEXT, "plan\na 0 1\nb 0 1\nc 0 1\nend c a b"), [("end",), ("wish", "b", "c")])

    def test_9_6_the_cost(self):
        rows = "\na 0 0\nb 1 1\nc 1 0\nend c a b"
        for cost in (0, 1, 20, 22, 10 ** 39):
            self.assertEqual(looked(TEXT, f"cost {cost}{rows}"), [("cost",)])
        self.assertEqual(looked(TEXT, "cost 21" + rows), [])

    def test_9_6_a_cost_that_is_not_the_least(self):
        # This plan brings the wish about and costs 25.
        rows = "\na 0 0\nb 0 1\nc 1 0\nend c a b"
        for cost in (21, 24, 25, 26):
            self.assertEqual(looked(TEXT, f"cost {cost}{rows}"), [("cost",)])
        self.assertEqual(looked(TEXT, "plan" + rows), [])

    def test_9_6_a_cost_below_that_of_plans_that_do(self):
        # This plan costs 9, less than any that brings the wish about, so that its cost alone has no fault.
        rows = "\na 1 0\nb 1 0\nc 1 0\nend a b c"
        self.assertEqual(looked(TEXT, "cost 9" + rows), [("wish", "b", "c")])
        self.assertEqual(looked(TEXT, "cost 8" + rows), [("wish", "b", "c"), ("cost",)])

    def test_9_6_a_cost_where_no_plan_does(self):
        rows = "\na 1 0\nb 0 0\nc 0\nend c a b"
        self.assertEqual(looked(BARRED, "cost 12" + rows), [("wish", "a", "b")])
        for cost in (0, 11, 13):
            self.assertEqual(looked(BARRED, f"cost {cost}{rows}"), [("wish", "a", "b"), ("cost",)])

    def test_9_6_the_order_of_the_faults(self):
        self.assertEqual(looked(TEXT, "cost 5\na 0 1\nb 0 1\nc 0 1\nend c a b"),
                         [("end",), ("wish", "b", "c"), ("cost",)])
        self.assertEqual(looked(TEXT, "cost 5\na 0 0\nb 1 1\nc 1 0\nend a b c"), [("end",), ("cost",)])

    def test_9_6_costs_where_the_wish_is_not_one_order(self):
        refuses(self, NotOneOrder, looked, LOOSE, "cost 9\n" + LOOSE_PLAN)
        refuses(self, NotOneOrder, looked, LOOSE, "cost 9\na\nb\nc\nend a b c")
        refuses(self, BadText, looked, LOOSE, "cost 9\na\nb\nc\nend a b")
        refuses(self, BadText, looked, LOOSE, "cost x\n" + LOOSE_PLAN)
        self.assertEqual(looked(LOOSE, "plan\n" + LOOSE_PLAN), [])
        self.assertEqual(looked(LOOSE, "chain b a"), [("chain",)])

    def test_9_6_refusals_of_the_page_go_first(self):
        for wanted, text in WRONG_PAGES:
            for answer in ("", "plan\nend", "cost 0\nend", "chain a"):
                refuses(self, wanted, looked, text, answer)
        refuses(self, BadText, looked, TEXT, "")
        self.assertEqual(refused_row(self, looked, TEXT, "plan\na 0 0\nc"), 3)
        self.assertEqual(refused_row(self, looked, TEXT + "\nwrong", "plan\na 0 0\nc"), 9)

    def test_9_6_over_all_words_and_ends(self):
        letters = [(2, 0), (1, 1)]
        for text in ("q", "qp", "qp q"):
            wide = mill_of(text)
            narrow = Mill([pockets[:-1] + ((pockets[-1][0], 1),) for pockets in wide.passes])
            for mill, order in product((wide, narrow), ([0, 1], [1, 0])):
                prices = [[3, 1][:len(pockets)] for pockets in mill.passes]
                self.look_at_all(Page(mill, ["a", "b"], letters, Wish(letters, [("row", order)]), prices))

    def look_at_all(self, page):
        text = page_text(page)
        words = [words_of(page.mill, late) + [(2,) * (page.mill.many() - late), (0,) * 5]
                 for size, late in page.letters]
        fitting = [[plan[0] for plan in all_plans(page.mill, [letter])] for letter in page.letters]
        costs = [cost_of(page.mill, page.letters, plan, page.prices) for plan in plans_that_do(page)]
        for plan in product(*words):
            for end, cost in product(([0, 1], [1, 0]), range(9)):
                faults = [("word", page.names[letter]) for letter in range(2) if plan[letter] not in fitting[letter]]
                more = []
                if not faults:
                    row = end_row(page.mill, page.letters, list(plan))
                    faults += [("end",)] if row != end else []
                    if not page.wish.kept_by(row):
                        faults.append(("wish", page.names[row[0]], page.names[row[1]]))
                    own = cost_of(page.mill, page.letters, list(plan), page.prices)
                    more = [("cost",)] if own != cost or any(other < cost for other in costs) else []
                self.assertEqual(looked(text, plan_text(page, "plan", plan, end)), faults)
                self.assertEqual(looked(text, plan_text(page, f"cost {cost}", plan, end)), faults + more)

    def test_0_3_kinds(self):
        told = looked(TEXT, "cost 5\na 0 1\nb 0 1\nc 0 1\nend c a b")
        self.assertEqual([type(part) for part in [told] + told], [list, tuple, tuple, tuple])


class OwnLists(OwnListsTests, unittest.TestCase):
    def setUp(self):
        self.page = read_page(TEXT)

    def handed(self):
        return [self.page.names, self.page.letters, self.page.prices, self.page.wish.groups]

    def told(self):
        page = read_page(TEXT)
        return [
            answered(TEXT), priced(TEXT), read_answer(page, PLAN), read_answer(page, COST),
            read_answer(page, "chain a b"), looked(TEXT, PLAN), looked(TEXT, "chain a"),
            looked(TEXT, "cost 5\na 0 1\nb 0 1\nc 0 1\nend c a b"),
        ]

    def test_0_2_the_page_stays_as_it_was(self):
        before = copy.deepcopy(self.handed())
        told = [read_answer(self.page, text) for text in (PLAN, COST, "chain c a b")]
        for text in ("", "plan", "chain x"):
            refuses(self, BadText, read_answer, self.page, text)
        for part in lists_within(told):
            part.clear()
        self.assertEqual(self.handed(), before)
        self.assertEqual(read_answer(self.page, "chain c a b"), ("chain", [2, 0, 1]))


if __name__ == "__main__":
    unittest.main()
