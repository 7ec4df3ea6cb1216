import unittest
from functools import cache
from itertools import permutations, product
from math import comb, factorial

from helper import MILLS, OwnListsTests, mill_of, numbered, piles, queues, refuses, words_of
from pocketmill.counting import come_to, faces, many_rows, number_of, row_at, stretches
from pocketmill.errors import BadRow, NoRow, Shut
from pocketmill.mills import Mill, face, word_code
from pocketmill.trays import end_row

MOST_PLANS = 10000
SHUT_MILLS = [
    Mill([[("queue", 0)]]), Mill([[("pile", 0)]]), Mill([[("queue", 9), ("pile", 0)]]),
    Mill([queues(2), piles(2) + [("queue", 0)], queues(1)]), Mill([queues(1, 1), queues(1, 0)]),
]
BAD_ROWS = [
    [1], [-1], [0, 0], [1, 1], [0, 2], [1, 2], [0, -1], [0, 1, 1], [0, 1, 3], [2, 1, 2], [0, 1, 10 ** 59],
    [False], [0, True], list(range(25)), list(range(23)) + [22], list(range(1, 25)), None,
]


def end_rows(mill, m):
    """The end rows of all plans, in the order that lists have."""
    plans = product(words_of(mill, 0), repeat=m)
    return sorted([list(row) for row in {tuple(end_row(mill, numbered(m), list(plan))) for plan in plans}])


@cache
def small_cases():
    mills = [mill_of(text) for text in MILLS]
    return [(mill, m, end_rows(mill, m)) for mill in mills for m in range(6) if mill.codes() ** m <= MOST_PLANS]


class Faces(unittest.TestCase):
    def test_6_1_faces_by_codes(self):
        for text, told in (
            ("", [1]), ("q", [1]), ("p", [-1]), ("qp", [1, -1]), ("pq", [-1, 1]), ("p p", [1]), ("q p", [-1]),
            ("qp q", [1, -1]), ("qp p", [1, -1]), ("qp pq", [1, -1, 1, -1]), ("qp qp", [1, -1, 1, -1]),
            ("qq qp", [1, 1, -1, -1]), ("qqp p", [1, -1, -1]),
        ):
            self.assertEqual(faces(mill_of(text)), told, text)

    def test_6_1_the_faces_of_the_words(self):
        for text in MILLS:
            mill = mill_of(text)
            by_code = {word_code(mill, 0, word): face(mill, 0, word) for word in words_of(mill, 0)}
            self.assertEqual(faces(mill), [by_code[code] for code in range(mill.codes())])

    def test_6_1_widths_above_nought_say_nothing(self):
        self.assertEqual(faces(Mill([[("queue", 1), ("pile", 1)], [("pile", 9)]])), faces(mill_of("qp p")))

    def test_6_1_a_list_of_numbers(self):
        told = faces(mill_of("qp pq"))
        self.assertIs(type(told), list)
        self.assertEqual({type(side) for side in told}, {int})


class Stretches(unittest.TestCase):
    def test_6_2_from_the_first_letter_on(self):
        for text, row, told in (
            ("", [0, 1, 2], [[0, 1, 2]]), ("p", [2, 1, 0], [[2, 1, 0]]), ("qp", [0, 2, 1], [[0, 2], [1]]),
            ("qp", [1, 3, 2, 0], [[1, 3], [2, 0]]), ("qp", [3, 2, 1, 0], [[3], [2, 1, 0]]),
            ("pq", [3, 1, 0, 2], [[3, 1, 0], [2]]), ("pq", [0, 1, 2, 3], [[0], [1, 2, 3]]),
            ("qp pq", [1, 0, 3, 2], [[1], [0], [3], [2]]), ("qp pq", [2, 3, 1, 0, 4], [[2, 3], [1, 0], [4]]),
            ("qqq", [1, 0, 3, 2], [[1], [0, 3], [2]]), ("ppp", [0, 1, 3, 2], [[0], [1], [3, 2]]),
        ):
            self.assertEqual(stretches(mill_of(text), row), told, (text, row))

    def test_6_2_as_many_as_it_takes(self):
        mill = mill_of("qqqq")
        for row, told in (([0], [[0]]), ([1, 0], [[1], [0]]), ([2, 1, 0], [[2], [1], [0]]), ([0, 1, 2], [[0, 1, 2]])):
            self.assertEqual(stretches(mill, row), told)

    def test_6_2_the_empty_row_has_none(self):
        for text in MILLS:
            self.assertEqual(stretches(mill_of(text), []), [])
            self.assertIs(come_to(mill_of(text), []), True)

    def test_6_2_more_stretches_than_codes(self):
        for text, row in (
            ("", [1, 0]), ("q", [1, 0]), ("p", [0, 1]), ("qp", [0, 2, 1, 3]), ("qp", [1, 0, 2]), ("pq", [0, 2, 1]),
            ("qqq", [3, 2, 1, 0]), ("ppp", [0, 1, 2, 3]), ("qp pq", [1, 0, 3, 2, 4]),
        ):
            self.assertIsNone(stretches(mill_of(text), row), (text, row))
            self.assertIs(come_to(mill_of(text), row), False)

    def test_6_2_just_as_many_stretches_as_codes(self):
        for many in range(1, 7):
            down, up = list(range(many - 1, -1, -1)), list(range(many))
            self.assertEqual(stretches(mill_of("q" * many), down), [[letter] for letter in down])
            self.assertEqual(stretches(mill_of("p" * many), up), [[letter] for letter in up])
            self.assertIs(come_to(mill_of("q" * many), [many] + down), False)
            self.assertIs(come_to(mill_of("p" * many), up + [many]), False)

    def test_6_1_24_letters(self):
        down, up = list(range(23, -1, -1)), list(range(24))
        self.assertEqual(stretches(mill_of("p"), down), [down])
        self.assertEqual(stretches(mill_of("q"), up), [up])
        self.assertIsNone(stretches(mill_of("q"), down))
        self.assertEqual(stretches(mill_of("qqqq qqqqqq"), down), [[letter] for letter in down])
        self.assertIsNone(stretches(mill_of("qqqqq qqqq"), down))

    def test_6_2_they_are_side_by_side_and_the_least(self):
        # Over all ways to cut a row into stretches, empty ones too, no way has its last letter in an earlier stretch.
        for text in ("q", "p", "qp", "pq", "qpp", "pqp", "qp pq", "qq pp"):
            sides = faces(mill_of(text))
            for m in range(1, 5):
                for row in permutations(range(m)):
                    lasts = []
                    for cuts in product(range(len(sides)), repeat=m):
                        parts = [[letter for letter, cut in zip(row, cuts) if cut == k] for k in range(len(sides))]
                        if list(cuts) == sorted(cuts) and all(part == sorted(part, reverse=side == -1)
                                                              for part, side in zip(parts, sides)):
                            lasts.append(cuts[-1] + 1)
                    told = stretches(mill_of(text), list(row))
                    self.assertEqual(None if told is None else len(told), min(lasts, default=None))
                    self.assertTrue(told is None or sum(told, []) == list(row))

    def test_6_1_rows_that_some_plan_has_as_its_end_row(self):
        for mill, m, rows in small_cases():
            for row in permutations(range(m)):
                self.assertIs(come_to(mill, list(row)), list(row) in rows)
                self.assertIs(stretches(mill, list(row)) is not None, list(row) in rows)

    def test_6_1_bad_rows(self):
        for row in BAD_ROWS:
            for text in ("", "q", "pq", "pppppp qqqqqq"):
                refuses(self, BadRow, stretches, mill_of(text), row)
                refuses(self, BadRow, come_to, mill_of(text), row)
                refuses(self, BadRow, number_of, mill_of(text), row)

    def test_0_3_lists_of_lists(self):
        told = stretches(mill_of("qp"), [0, 2, 1])
        self.assertEqual([type(part) for part in [told] + told], [list] * 3)


class Counting(unittest.TestCase):
    def test_6_3_counted_and_numbered_there_and_back(self):
        for mill, m, rows in small_cases():
            self.assertEqual(many_rows(mill, m), len(rows))
            self.assertEqual([row_at(mill, m, number) for number in range(len(rows))], rows)
            self.assertEqual([number_of(mill, row) for row in rows], list(range(len(rows))))

    def test_6_3_of_more_letters(self):
        # Six letters: too many plans, but few enough rows.
        for text in ("qp", "pq", "qqq", "qp pq", "pqp qp"):
            mill = mill_of(text)
            rows = [list(row) for row in permutations(range(6)) if come_to(mill, list(row))]
            self.assertEqual(many_rows(mill, 6), len(rows))
            self.assertEqual([row_at(mill, 6, number) for number in range(len(rows))], rows)
            self.assertEqual([number_of(mill, row) for row in rows], list(range(len(rows))))

    def test_6_3_no_letters(self):
        for text in MILLS:
            self.assertEqual(many_rows(mill_of(text), 0), 1)
            self.assertEqual(row_at(mill_of(text), 0, 0), [])
            self.assertEqual(number_of(mill_of(text), []), 0)
            refuses(self, NoRow, row_at, mill_of(text), 0, 1)
            refuses(self, NoRow, row_at, mill_of(text), 0, -1)

    def test_6_3_one_row(self):
        for m in range(1, 13):
            for text, row in (("", list(range(m))), ("q", list(range(m))), ("p", list(range(m - 1, -1, -1)))):
                self.assertEqual(many_rows(mill_of(text), m), 1)
                self.assertEqual(row_at(mill_of(text), m, 0), row)
                self.assertEqual(number_of(mill_of(text), row), 0)

    def test_6_3_counts_that_are_known(self):
        for m in range(13):
            # With as many codes as letters every row can be come to. Two rising stretches are told by the letters of
            # the first one, but m + 1 such choices tell the one rising row. A rising stretch and then a falling one
            # meet at the greatest letter, and each other letter stands in one of them.
            self.assertEqual(many_rows(mill_of("pppppp qqqqqq"), m), factorial(m))
            self.assertEqual(many_rows(mill_of("pqpqp qqppq pppqq qp pp pq"), m), factorial(m))
            self.assertEqual(many_rows(mill_of("qq"), m), 2 ** m - m)
            self.assertEqual(many_rows(mill_of("pp"), m), 2 ** m - m)
            self.assertEqual(many_rows(mill_of("qp"), m), 2 ** max(m - 1, 0))
            self.assertEqual(many_rows(mill_of("pq"), m), 2 ** max(m - 1, 0))

    def test_6_3_queues_count_rows_by_their_falls(self):
        for m in range(1, 13):
            for codes in range(1, 7):
                falls = [sum((-1) ** j * comb(m + 1, j) * (k + 1 - j) ** m for j in range(k + 1)) for k in range(m)]
                self.assertEqual(many_rows(mill_of("q" * codes), m), sum(falls[:codes]))

    def test_6_3_the_order_of_lists(self):
        self.assertEqual([row_at(mill_of("qp"), 3, k) for k in range(4)], [[0, 1, 2], [0, 2, 1], [1, 2, 0], [2, 1, 0]])
        self.assertEqual([row_at(mill_of("pq"), 3, k) for k in range(4)], [[0, 1, 2], [1, 0, 2], [2, 0, 1], [2, 1, 0]])

    def test_6_3_12_letters_there_and_back(self):
        for text in ("qp", "pqp", "qp pq", "qqq pp", "pppppp qqqqqq", "pqpqp qqppq pppqq qp pp pq"):
            mill = mill_of(text)
            many = many_rows(mill, 12)
            numbers = sorted({0, 1, many // 7, many // 3, many // 2, many - 2, many - 1})
            rows = [row_at(mill, 12, number) for number in numbers]
            self.assertEqual([number_of(mill, row) for row in rows], numbers)
            self.assertEqual(rows, sorted(rows))
            self.assertTrue(all(come_to(mill, row) and sorted(row) == list(range(12)) for row in rows))
            refuses(self, NoRow, row_at, mill, 12, many)

    def test_6_3_numbers_that_are_none(self):
        for text in ("", "q", "p", "qp", "qqq", "qp pq", "pppppp qqqqqq"):
            for m in range(13):
                many = many_rows(mill_of(text), m)
                for number in (-1, -many, many, many + 1, 10 ** 59, -10 ** 59, True, False):
                    refuses(self, NoRow, row_at, mill_of(text), m, number)

    def test_6_3_rows_that_can_not_be_come_to(self):
        for text, row in (
            ("", [1, 0]), ("q", [1, 0]), ("p", [0, 1]), ("qp", [0, 2, 1, 3]), ("qp", [1, 0, 2]), ("qqq", [3, 2, 1, 0]),
            ("q", list(range(11, -1, -1))), ("qp pq", [1, 0, 3, 2, 5, 4, 7, 6, 9, 8, 11, 10]),
        ):
            refuses(self, NoRow, number_of, mill_of(text), row)

    def test_6_3_beyond_12_letters_nothing_is_refused(self):
        self.assertEqual(many_rows(mill_of("qp"), 13), 2 ** 12)
        self.assertEqual(row_at(mill_of("qp"), 13, 0), list(range(13)))
        self.assertEqual(number_of(mill_of("qp"), list(range(12, -1, -1))), 2 ** 12 - 1)
        self.assertEqual(many_rows(mill_of("qp"), -1), 0)

    def test_0_3_kinds(self):
        self.assertEqual([type(many_rows(mill_of("qp"), 3)), type(row_at(mill_of("qp"), 3, 1))], [int, list])
        self.assertIs(type(number_of(mill_of("qp"), [0, 2, 1])), int)


class Refusals(unittest.TestCase):
    def test_6_1_shut_goes_first(self):
        for mill in SHUT_MILLS:
            refuses(self, Shut, faces, mill)
            for row in [[], [0], [0, 1], [1, 0]] + BAD_ROWS:
                for asked in (stretches, come_to, number_of):
                    refuses(self, Shut, asked, mill, row)
            for m in range(13):
                refuses(self, Shut, many_rows, mill, m)
                for number in (0, -1, 10 ** 20):
                    refuses(self, Shut, row_at, mill, m, number)

    def test_6_1_widths_of_one_are_not_shut(self):
        mill = Mill([queues(2, 1), piles(2, 1)])
        self.assertEqual(faces(mill), [-1] * 4)
        self.assertEqual((stretches(mill, [1, 0]), many_rows(mill, 3)), ([[1, 0]], 6))

    def test_0_4_bad_rows_go_ahead_of_rows_that_can_not_be_come_to(self):
        for row in ([1, 0, 0], [1, 0, 3], list(range(24, -1, -1))):
            refuses(self, BadRow, number_of, mill_of("q"), row)


class OwnLists(OwnListsTests, unittest.TestCase):
    def setUp(self):
        self.mill = mill_of("qp pq")
        self.row = [2, 3, 1, 0, 4]

    def handed(self):
        return [self.row]

    def told(self):
        return [faces(self.mill), stretches(self.mill, self.row), stretches(self.mill, []),
                come_to(self.mill, self.row), many_rows(self.mill, 5), row_at(self.mill, 5, 7),
                row_at(self.mill, 0, 0), number_of(self.mill, self.row)]

    def test_0_2_what_is_refused_stays_as_it_was(self):
        bad = [0, 1, 1]
        refuses(self, BadRow, stretches, self.mill, bad)
        refuses(self, NoRow, number_of, mill_of("q"), self.row)
        self.assertEqual((self.row, bad), ([2, 3, 1, 0, 4], [0, 1, 1]))
        self.assertEqual(self.mill.passes, mill_of("qp pq").passes)


if __name__ == "__main__":
    unittest.main()
