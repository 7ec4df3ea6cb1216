import copy
import unittest
from itertools import permutations

from helper import MILLS, OwnListsTests, all_lists_are_own, mill_of, numbered, refused_row, refuses, small_cases
from pocketmill.errors import BadLetters, BadMill, BadText, BadWish
from pocketmill.mills import Mill
from pocketmill.pages import Page, page_number, page_text, read_page, words_of
from pocketmill.wishes import Wish

TEXT = """pass q9 p3
pass p0 q5 q1
letter a 1 0
letter bb 9 2
letter ccc 5 1
row ccc a
any bb
price 1 0 7 1000000000000000000000000000000"""
TOLD = (
    ((("queue", 9), ("pile", 3)), (("pile", 0), ("queue", 5), ("queue", 1))),
    ["a", "bb", "ccc"], [(1, 0), (9, 2), (5, 1)], [("row", [2, 0]), ("any", [1])], [[0, 0], [0, 7, 10 ** 30]],
)
# Rows that are wrong behind those of TEXT, as one of them tells the same letter or the same pass's prices.
TOLD_TWICE = ["letter a 1 0", "letter bb 1 0", "letter ccc 5 1", "price 1 1 1 1"]
WRONG_ROWS = TOLD_TWICE + [
    # Rows of no kind.
    "passes q9", "Pass q9", "PASS", "letters d 1 0", "word a", "0", "a", "q9", "end", "plan", "chain a", "cost 5", "-",
    "pas", "price0 1 2", ":", "\"pass q9\"",
    # Pockets.
    "pass q", "pass p", "pass 9", "pass 9q", "pass q10", "pass q-1", "pass Q9", "pass x9", "pass q9 r1", "pass qq",
    "pass q9p3", "pass q9,", "pass queue", "pass q9 p3 9", "pass pass",
    # Letters.
    "letter", "letter d", "letter d 1", "letter d 1 0 0", "letter d x 0", "letter d 1 x", "letter d -1 0",
    "letter d 1 -1", "letter d 01 0", "letter d 1 00", "letter 1 0", "letter 1 1 0", "letter D 1 0", "letter d1 1 0",
    "letter abcdefghi 1 0", "letter d-e 1 0", "letter d +1 0", "letter d 1 " + "1" * 32, "letter d 1.0 0",
    "letter d 1 0 extra", "letter 1 0 d", "letter d d d",
    # Groups.
    "any", "come", "row", "any A", "row 1", "come a1", "any abcdefghi", "row a, bb", "any d", "row a d", "come d a",
    "row a bb x", "any aa", "any b",
    # Prices.
    "price", "price x", "price 0", "price 0 1", "price 0 1 2 3", "price 0 1 x", "price 0 1 -2", "price 0 01 2",
    "price 00 1 2", "price -1", "price 2", "price 2 1", "price 2 1 2", "price 7 1 2", "price a 1 2",
    "price " + "9" * 31 + " 1 2", "price " + "9" * 32 + " 1 2", "price 0 1 1000000000000000000000000000001",
    "price 0 9999999999999999999999999999999 1", "price 0 1 " + "1" * 32, "price 1 0 7",
]


def parts_of(page):
    return page.mill.passes, page.names, page.letters, page.wish.groups, page.prices


def names_from(count):
    return ["abcdefghijklmnopqrstuvwxyz"[number] for number in range(count)]


class PageNumbers(unittest.TestCase):
    def test_9_1_numbers(self):
        for word, number in (
            ("0", 0), ("1", 1), ("9", 9), ("10", 10), ("907", 907), ("1" + "0" * 30, 10 ** 30),
            ("9" * 31, 10 ** 31 - 1), ("9" * 30, 10 ** 30 - 1),
        ):
            self.assertEqual(page_number(word), number)
            self.assertIs(type(page_number(word)), int)

    def test_9_1_no_numbers(self):
        for word in ("", "00", "01", "007", "0" * 31, "1" * 32, "1" + "0" * 31, "0" * 32, "-1", "+1", "-0", "1.0",
                     "1e3", "1_000", "1,0", " 1", "1 ", "1 2", " ", "a", "1a", "a1", "0x1", "one", "#", "1#", "1\n",
                     "\n1", "\u0663", "\u00b2", "1\u0661", "1" * 6000):
            self.assertIsNone(page_number(word), word)


class Words(unittest.TestCase):
    def test_9_1_pieces_parted_by_blanks(self):
        for row, words in (
            ("pass q9 p3", ["pass", "q9", "p3"]), ("pass", ["pass"]), ("  pass   q9  ", ["pass", "q9"]),
            (" a", ["a"]), ("a ", ["a"]), ("a  b", ["a", "b"]), ("a,b;c", ["a,b;c"]), ("- ~ !", ["-", "~", "!"]),
        ):
            self.assertEqual(words_of(row), words)

    def test_9_1_rows_without_a_word(self):
        for row in ("", " ", " " * 50, "#", "# pass q9", "   # a", "##", "#pass"):
            self.assertEqual(words_of(row), [])

    def test_9_1_remarks(self):
        for row, words in (
            ("pass q9 # a remark", ["pass", "q9"]), ("pass q9#p3", ["pass", "q9"]), ("pass#q9", ["pass"]),
            ("a #b# c", ["a"]), ("a # b # c", ["a"]),
        ):
            self.assertEqual(words_of(row), words)

    def test_0_3_kinds(self):
        for row in ("", "a b", "# a"):
            self.assertIs(type(words_of(row)), list)


class ReadPages(unittest.TestCase):
    def test_9_2_a_page(self):
        page = read_page(TEXT)
        self.assertIs(type(page), Page)
        self.assertIs(type(page.mill), Mill)
        self.assertIs(type(page.wish), Wish)
        self.assertEqual(parts_of(page), TOLD)
        self.assertEqual(page.wish.levels(), [[2], [0], [1]])

    def test_9_1_blanks_and_remarks_say_nothing(self):
        rows = TEXT.split("\n")
        for text in (
            "\n" + TEXT, TEXT + "\n", "\n\n" + TEXT + "\n\n", TEXT.replace("\n", "\n\n"), TEXT.replace(" ", "    "),
            "\n".join("  " + row + "  " for row in rows), "\n".join(row + " # " + row for row in rows),
            "\n".join(row + "#" for row in rows), "\n".join("# letter d 1 0\n" + row for row in rows),
            TEXT.replace("\n", "\n   \n"), "#\n" + TEXT + "\n#any d",
        ):
            self.assertEqual(parts_of(read_page(text)), TOLD)

    def test_9_1_pages_without_rows(self):
        for text in ("", "\n", "\n\n\n", " ", "# nothing", " \n # \n\n"):
            page = read_page(text)
            self.assertEqual(parts_of(page), ((), [], [], [], []))
            self.assertEqual(page.wish.levels(), [])

    def test_9_2_rows_of_unlike_kinds_in_any_order(self):
        rows = ["pass q9 p3", "letter a 1 0", "letter b 2 1", "row b a", "price 0 5 6"]
        told = parts_of(read_page("\n".join(rows)))
        for order in permutations(rows):
            if order.index(rows[1]) < order.index(rows[2]):
                self.assertEqual(parts_of(read_page("\n".join(order))), told)

    def test_9_2_each_kind_is_counted_as_its_rows_come(self):
        page = read_page("price 1 3\nany b\nletter a 2 0\npass q1\nany a\nletter b 3 1\npass p2\nletter c 4 2\ncome c")
        self.assertEqual(parts_of(page), (
            ((("queue", 1),), (("pile", 2),)), ["a", "b", "c"], [(2, 0), (3, 1), (4, 2)],
            [("any", [1]), ("any", [0]), ("come", [2])], [[0], [3]]))

    def test_9_2_pockets(self):
        page = read_page("pass q0 q1 q2 q3 q4 q5\npass p6 p7 p8 p9")
        self.assertEqual(page.mill.passes, (tuple(("queue", width) for width in range(6)),
                                            tuple(("pile", width) for width in range(6, 10))))

    def test_9_2_groups(self):
        letters = "".join(f"letter {name} 1 0\n" for name in names_from(5))
        for kind in ("any", "come", "row"):
            page = read_page(f"{letters}{kind} e a\n{kind} b d c")
            self.assertEqual(page.wish.groups, [(kind, [4, 0]), (kind, [1, 3, 2])])

    def test_9_2_prices(self):
        most = "1" + "0" * 30
        page = read_page(f"pass q9 q9\npass p1\npass q1 q2 q3\nprice 2 1 0 {most}\nprice 0 {most} {most}")
        self.assertEqual(page.prices, [[10 ** 30, 10 ** 30], [0], [1, 0, 10 ** 30]])
        self.assertEqual(read_page("pass q9 q9\npass p1").prices, [[0, 0], [0]])
        self.assertEqual(read_page("pass q9 q9\nprice 0 0 0").prices, [[0, 0]])

    def test_9_1_names_of_1_and_8_letters(self):
        page = read_page("letter z 1 0\nletter abcdefgh 1 0\nletter zzzzzzzz 1 0\nany z abcdefgh zzzzzzzz")
        self.assertEqual(page.names, ["z", "abcdefgh", "zzzzzzzz"])

    def test_9_2_names_that_are_words_of_rows(self):
        page = read_page("letter pass 1 0\nletter letter 1 0\nletter row 1 0\nletter price 1 0\nletter any 1 0\n"
                         "row row price\nany any\ncome pass letter")
        self.assertEqual(page.names, ["pass", "letter", "row", "price", "any"])
        self.assertEqual(page.wish.groups, [("row", [2, 3]), ("any", [4]), ("come", [0, 1])])

    def test_9_2_24_letters(self):
        names = names_from(24)
        text = "".join(f"letter {name} 9 0\n" for name in names) + "row " + " ".join(names)
        self.assertEqual(read_page(text).letters, [(9, 0)] * 24)

    def test_0_3_kinds(self):
        page = read_page(TEXT)
        self.assertEqual([type(part) for part in (page.names, page.letters, page.prices, *page.prices)], [list] * 5)
        self.assertEqual({type(letter) for letter in page.letters}, {tuple})


class WrongRows(unittest.TestCase):
    def test_9_2_each_wrong_row_behind_the_others(self):
        for row in WRONG_ROWS:
            self.assertEqual(refused_row(self, read_page, TEXT + "\n" + row), 9, row)
            self.assertEqual(refused_row(self, read_page, TEXT + "\n\n# remark\n  " + row + "  # remark\n"), 11, row)

    def test_9_2_each_wrong_row_between_the_others(self):
        rows = TEXT.split("\n")
        for row in WRONG_ROWS:
            # Ahead of the row that tells the same it would be right, and that one wrong.
            if row not in TOLD_TWICE:
                for at in range(len(rows) + 1):
                    text = "\n".join(rows[:at] + [row] + rows[at:])
                    self.assertEqual(refused_row(self, read_page, text), at + 1, row)

    def test_9_2_a_name_told_twice(self):
        self.assertEqual(refused_row(self, read_page, "letter a 1 0\nletter a 1 0\nany a"), 2)
        text = "any a\n\nletter a 1 0\nletter b 1 0\nletter a 2 1\nletter b 1 0"
        self.assertEqual(refused_row(self, read_page, text), 5)

    def test_9_2_a_name_ahead_counts_by_its_form_alone(self):
        # The first row with the name has a size that no mill takes, but a letter's form; the other has no such form.
        self.assertEqual(refused_row(self, read_page, "letter a 77 99\nletter a 1 0\nany a"), 2)
        self.assertEqual(refused_row(self, read_page, "letter b 1 0\nletter a 1\nletter a 1 0\nany a"), 2)

    def test_9_2_names_that_no_letter_of_the_page_has(self):
        self.assertEqual(refused_row(self, read_page, "any a"), 1)
        self.assertEqual(refused_row(self, read_page, "any a b\nletter a 1 0"), 1)
        self.assertEqual(refused_row(self, read_page, "any a\nletter a 1 0\nrow b"), 3)
        # A row that is no letter's brings no name along.
        self.assertEqual(refused_row(self, read_page, "any a\nletter a 1"), 1)
        self.assertEqual(refused_row(self, read_page, "any a\nletter a 1 00"), 1)
        # One whose name is there already is of a letter's form all the same.
        self.assertEqual(refused_row(self, read_page, "any a\nletter a 1 0\nletter a 1 0"), 3)

    def test_9_2_prices_of_a_pass_that_is_not_there(self):
        self.assertEqual(refused_row(self, read_page, "price 0"), 1)
        self.assertEqual(refused_row(self, read_page, "price 1 5\npass q9"), 1)
        self.assertEqual(refused_row(self, read_page, "pass q9\nprice 1"), 2)
        # A row that is no pass brings none along.
        self.assertEqual(refused_row(self, read_page, "price 0 5\npass x"), 1)
        self.assertEqual(refused_row(self, read_page, "price 0 5\npass x\npass q9"), 2)

    def test_9_2_prices_told_twice(self):
        self.assertEqual(refused_row(self, read_page, "pass q9\npass q9\nprice 0 1\nprice 1 1\nprice 0 1"), 5)
        self.assertEqual(refused_row(self, read_page, "price 1 1\nprice 1 1\npass q9\npass q9"), 2)
        self.assertEqual(refused_row(self, read_page, "price 0 0\npass q9\nprice 0 0"), 3)

    def test_9_2_too_few_or_too_many_prices(self):
        for many in (0, 1, 3, 4):
            self.assertEqual(refused_row(self, read_page, "price 0" + " 1" * many + "\npass q9 p9"), 1)

    def test_9_2_prices_of_31_and_32_figures(self):
        for price, right in (("1" + "0" * 30, True), ("1" + "0" * 29 + "1", False), ("9" * 31, False), ("9" * 30, True),
                             ("1" + "0" * 31, False)):
            text = "pass q9\nprice 0 " + price
            if right:
                self.assertEqual(read_page(text).prices, [[int(price)]])
            else:
                self.assertEqual(refused_row(self, read_page, text), 2)

    def test_9_1_numbers_of_31_and_32_figures(self):
        for size, late in (("9" * 31, "0"), ("1", "9" * 31)):
            refuses(self, BadLetters, read_page, f"letter a {size} {late}\nany a")
        for size, late in (("9" * 32, "0"), ("1", "9" * 32), ("01", "0"), ("1", "00")):
            self.assertEqual(refused_row(self, read_page, f"letter a {size} {late}\nany a"), 1)

    def test_9_2_the_first_wrong_row_is_told(self):
        for one in WRONG_ROWS:
            self.assertEqual(refused_row(self, read_page, TEXT + "\n" + one + "\nwrong"), 9)
            self.assertEqual(refused_row(self, read_page, "wrong\n" + TEXT + "\n" + one), 1)
        self.assertEqual(refused_row(self, read_page, "pass q9\n\n# x\nany b\npass x\nletter a 1 0\nprice 3"), 4)

    def test_9_1_rows_are_counted_with_those_that_say_nothing(self):
        for many in range(5):
            self.assertEqual(refused_row(self, read_page, "\n" * many + "wrong"), many + 1)
            self.assertEqual(refused_row(self, read_page, "# a\n" * many + " \npass q9\nwrong\n"), many + 3)


class WrongPages(unittest.TestCase):
    def test_9_2_the_mill(self):
        for text in ("pass", "pass q9\npass", "pass # none", "pass q9 q9 q9 q9 q9 q9 q9", "pass q9\n" * 7,
                     "pass q9 q9 q9 q9 q9 q9\n" * 4, "pass\nprice 0", "price 1\npass q9\npass\nprice 0 7"):
            refuses(self, BadMill, read_page, text)
        self.assertEqual(read_page("pass p9\n" * 6).mill.codes(), 1)

    def test_9_2_a_pass_without_pockets_and_its_prices(self):
        refuses(self, BadMill, read_page, "pass\nprice 0")
        self.assertEqual(refused_row(self, read_page, "pass\nprice 0 1"), 2)
        self.assertEqual(refused_row(self, read_page, "pass\nprice 0\nprice 0"), 3)
        self.assertEqual(refused_row(self, read_page, "pass\nprice 1"), 2)

    def test_9_2_the_letters(self):
        for row in ("letter a 0 0", "letter a 10 0", "letter a 1 2", "letter a 1 7", "letter a " + "1" * 31 + " 0"):
            refuses(self, BadLetters, read_page, "pass q9\n" + row + "\nany a")
        names = names_from(25)
        text = "".join(f"letter {name} 1 0\n" for name in names) + "any " + " ".join(names)
        refuses(self, BadLetters, read_page, text)

    def test_9_2_the_wish(self):
        letters = "letter a 1 0\nletter b 1 0\n"
        for groups in ("", "any a", "row b", "any a b a", "row a a b", "any a\nany b\nany a", "come b b\nany a",
                       "any a b\nrow b"):
            refuses(self, BadWish, read_page, letters + groups)
            refuses(self, BadWish, read_page, groups + "\n" + letters)

    def test_0_4_the_order_of_the_refusals(self):
        mill, letters, wish = "pass\n", "letter a 0 0\n", "any a a\n"
        for text in (mill + letters + wish + "x", "x\n" + mill + letters + wish, mill + "x", letters + wish + "x",
                     wish + "letter a 1 0\nx", wish):
            refuses(self, BadText, read_page, text)
        for text in (mill + letters + wish, wish + letters + mill, mill + letters + "any a", mill,
                     mill + "letter a 1 0", mill + "letter a 1 0\n" + wish):
            refuses(self, BadMill, read_page, text)
        for text in (letters + wish, wish + letters, letters, "pass q9\n" + letters + wish):
            refuses(self, BadLetters, read_page, text)
        refuses(self, BadWish, read_page, "letter a 1 0\n" + wish)


class WrittenPages(unittest.TestCase):
    def written(self, mill, names, letters, groups, prices):
        return page_text(Page(mill, names, letters, Wish(letters, groups), prices))

    def test_9_3_a_page(self):
        self.assertEqual(page_text(read_page(TEXT)), TEXT)
        passes, names, letters, groups, prices = TOLD
        self.assertEqual(self.written(Mill(passes), names, letters, groups, prices), TEXT)

    def test_9_3_kinds_stand_in_their_order(self):
        text = "price 1 3\nany b\nletter a 2 0\npass q1\n\nany   a\nletter b 3 1 # b\npass p2\nprice 0 2\n"
        self.assertEqual(page_text(read_page(text)),
                         "pass q1\npass p2\nletter a 2 0\nletter b 3 1\nany b\nany a\nprice 0 2\nprice 1 3")

    def test_9_3_passes_that_have_a_price_above_nought(self):
        mill = mill_of("qp q pp")
        for prices, rows in (
            ([[0, 0], [0], [0, 0]], []), ([[0, 1], [0], [0, 0]], ["price 0 0 1"]),
            ([[1, 0], [0], [0, 0]], ["price 0 1 0"]),
            ([[0, 0], [10 ** 30], [0, 9]], ["price 1 1000000000000000000000000000000", "price 2 0 9"]),
            ([[3, 4], [5], [6, 7]], ["price 0 3 4", "price 1 5", "price 2 6 7"]),
        ):
            self.assertEqual(self.written(mill, [], [], [], prices),
                             "\n".join(["pass q9 p9", "pass q9", "pass p9 p9"] + rows))

    def test_9_3_nothing_to_write(self):
        self.assertEqual(self.written(Mill([]), [], [], [], []), "")
        self.assertEqual(self.written(mill_of("q"), [], [], [], [[0]]), "pass q9")
        self.assertEqual(self.written(Mill([]), ["a"], [(9, 0)], [("come", [0])], []), "letter a 9 0\ncome a")

    def test_9_3_groups_as_they_were_told(self):
        letters = numbered(4)
        groups = [("any", [3, 1]), ("row", [2]), ("come", [0])]
        self.assertEqual(self.written(Mill([]), ["d", "c", "b", "a"], letters, groups, []),
                         "letter d 1 0\nletter c 1 0\nletter b 1 0\nletter a 1 0\nany a c\nrow b\ncome d")

    def test_9_3_what_is_written_is_read_as_the_same(self):
        for mill, letters, wish in small_cases():
            names = ["end", "aaaaaaaa", "z"][:len(letters)]
            for price in (0, 10 ** 30):
                prices = [[price * (at + number) // 3 for at in range(len(pockets))]
                          for number, pockets in enumerate(mill.passes)]
                page = Page(mill, names, letters, wish, prices)
                read = read_page(page_text(page))
                self.assertEqual(parts_of(read), (mill.passes, names, letters, wish.groups, prices))
                self.assertEqual(read.wish.levels(), wish.levels())
                self.assertEqual(page_text(read), page_text(page))

    def test_9_3_large_mills_and_24_letters(self):
        for text in MILLS:
            mill = mill_of(text)
            letters = [(1 + letter % 9, letter % (mill.many() + 1)) for letter in range(24)]
            groups = [("come", list(range(23, 11, -1))), ("row", list(range(5, 12))), ("any", [4, 2, 0, 3, 1])]
            prices = [[number * at for at in range(len(pockets))] for number, pockets in enumerate(mill.passes)]
            page = Page(mill, names_from(24), letters, Wish(letters, groups), prices)
            read = read_page(page_text(page))
            self.assertEqual(parts_of(read), (mill.passes, names_from(24), letters, groups, prices))

    def test_9_3_one_blank_one_line_end_and_nothing_else(self):
        for mill, letters, wish in small_cases():
            prices = [[1] * len(pockets) for pockets in mill.passes]
            text = page_text(Page(mill, ["a", "b", "c"][:len(letters)], letters, wish, prices))
            for row in text.split("\n") if text else []:
                self.assertEqual(row, " ".join(row.split()))
                self.assertNotEqual(row, "")


class PageValues(unittest.TestCase):
    def test_9_3_a_page_has_what_it_is_made_of(self):
        passes, names, letters, groups, prices = TOLD
        page = Page(Mill(passes), names, letters, Wish(letters, groups), prices)
        self.assertEqual(parts_of(page), TOLD)

    def test_0_2_its_lists_are_its_own(self):
        passes, names, letters, groups, prices = copy.deepcopy(TOLD)
        page = Page(Mill(passes), names, letters, Wish(letters, groups), prices)
        all_lists_are_own(self, names, letters, groups, prices, page.names, page.letters, page.prices, page.wish.groups)
        for handed in (names, letters, prices[0], prices[1], prices, groups):
            handed.clear()
        self.assertEqual(parts_of(page), TOLD)
        self.assertEqual(page_text(page), TEXT)


class OwnLists(OwnListsTests, unittest.TestCase):
    def handed(self):
        return []

    def told(self):
        pages = [read_page(TEXT), read_page("pass q9\npass q9\nletter a 1 0\nany a"), read_page("")]
        return [words_of("a b"), words_of("")] + [list(parts_of(page)) for page in pages]

    def test_0_2_writing_changes_nothing(self):
        page = read_page(TEXT)
        self.assertEqual(page_text(page), page_text(page))
        self.assertEqual(parts_of(page), TOLD)


if __name__ == "__main__":
    unittest.main()
