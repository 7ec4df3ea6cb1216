import copy
import unittest

from helper import MILLS, mill_of, piles, queues, refuses, words_of
from pocketmill.errors import BadCode, BadLate, BadMill, BadSize, BadWord
from pocketmill.mills import Mill, code_word, face, fits, word_code


class Mills(unittest.TestCase):
    def test_1_1_passes_are_kept_as_tuples_of_pairs(self):
        wanted = ((("queue", 9), ("pile", 0)), (("pile", 5),))
        for passes in (
            [[("queue", 9), ("pile", 0)], [("pile", 5)]],
            ((("queue", 9), ("pile", 0)), (("pile", 5),)),
            [(("queue", 9), ("pile", 0)), [("pile", 5)]],
            ([("queue", 9), ("pile", 0)], [("pile", 5)]),
        ):
            mill = Mill(passes)
            self.assertEqual(mill.passes, wanted)
            self.assertEqual([type(pockets) for pockets in mill.passes], [tuple, tuple])

    def test_1_1_without_passes_there_is_one_code(self):
        for passes in ([], ()):
            mill = Mill(passes)
            self.assertEqual((mill.passes, mill.codes(), mill.many()), ((), 1, 0))

    def test_1_1_codes_and_passes_are_counted(self):
        for counts, codes in (((1,), 1), ((6,), 6), ((2, 3), 6), ((4, 1, 5), 20), ((3,) * 6, 729)):
            mill = Mill([queues(many) for many in counts])
            self.assertEqual((mill.codes(), mill.many()), (codes, len(counts)))

    def test_1_1_up_to_6_passes(self):
        self.assertEqual(Mill([queues(1)] * 6).many(), 6)
        refuses(self, BadMill, Mill, [queues(1)] * 7)
        refuses(self, BadMill, Mill, [queues(1)] * 60)

    def test_1_1_from_1_to_6_pockets(self):
        for many in range(1, 7):
            self.assertEqual(Mill([piles(many)]).codes(), many)
        for many in (0, 7, 8):
            refuses(self, BadMill, Mill, [queues(many)])
            refuses(self, BadMill, Mill, [queues(2), queues(many)])
        refuses(self, BadMill, Mill, [()])

    def test_1_1_widths_from_0_to_9(self):
        for width in range(10):
            for kind in ("queue", "pile"):
                self.assertEqual(Mill([[(kind, width)]]).passes, (((kind, width),),))
        for width in (-1, 10, -10 ** 59, 10 ** 59):
            refuses(self, BadMill, Mill, [[("queue", width)]])
            refuses(self, BadMill, Mill, [queues(2), [("pile", 3), ("pile", width)]])

    def test_1_1_at_most_1000_codes(self):
        for counts in ((5, 5, 5, 2, 2, 2), (1, 5, 5, 2, 5, 4)):
            self.assertEqual(Mill([queues(many) for many in counts]).codes(), 1000)
        for counts in ((4, 4, 4, 4, 4), (6, 6, 6, 5), (6, 6, 6, 6, 6, 6)):
            refuses(self, BadMill, Mill, [queues(many) for many in counts])

    def test_1_5_other_kinds_and_forms_are_no_mills(self):
        for pocket in (
            ("stack", 3), ("Queue", 3), ("", 3), (0, 3), ("queue", True), ("pile", False), ("queue", "3"),
            ("queue", None), ("queue",), ("queue", 3, 3), (), ["queue", 3], "qu", (3, "queue"), None,
        ):
            refuses(self, BadMill, Mill, [[pocket]])
            refuses(self, BadMill, Mill, [queues(1), queues(1) + [pocket]])
        for passes in (None, 3, "", {}, [None], [3], ["queue"], [("queue", 3)]):
            refuses(self, BadMill, Mill, passes)

    def test_0_2_a_mill_keeps_a_copy(self):
        passes = [[("queue", 4), ("pile", 5)], [("pile", 6)]]
        before = copy.deepcopy(passes)
        mill = Mill(passes)
        self.assertEqual(passes, before)
        passes[0][0] = ("pile", 1)
        passes[1].append(("queue", 1))
        passes.append([("queue", 2)])
        self.assertEqual(mill.passes, ((("queue", 4), ("pile", 5)), (("pile", 6),)))
        self.assertEqual((mill.codes(), mill.many()), (2, 2))
        self.assertEqual(word_code(mill, 0, (1, 0)), 0)

    def test_0_2_a_refused_mill_stays_as_it_was(self):
        passes = [[("queue", 4)], [("pile", 10)]]
        refuses(self, BadMill, Mill, passes)
        self.assertEqual(passes, [[("queue", 4)], [("pile", 10)]])


class Words(unittest.TestCase):
    def setUp(self):
        self.mill = Mill([[("queue", 9), ("pile", 7)], [("pile", 8), ("queue", 5)]])

    def test_1_3_codes_of_a_mill_worked_by_hand(self):
        for late, word, code in (
            (0, (0, 0), 1), (0, (0, 1), 2), (0, (1, 0), 0), (0, (1, 1), 3),
            (1, (0,), 0), (1, (1,), 3), (2, (), 3),
        ):
            self.assertEqual(word_code(self.mill, late, word), code)
            self.assertEqual(code_word(self.mill, late, code), word)

    def test_1_3_codes_of_queues_alone_are_the_word_read_backwards(self):
        mill = Mill([queues(2), queues(3), queues(5)])
        for word in words_of(mill, 0):
            self.assertEqual(word_code(mill, 0, word), word[0] + 2 * word[1] + 6 * word[2])
        for word in words_of(mill, 1):
            self.assertEqual(word_code(mill, 1, word), 1 + 2 * word[0] + 6 * word[1])
        for word in words_of(mill, 2):
            self.assertEqual(word_code(mill, 2, word), 5 + 6 * word[0])

    def test_1_3_codes_of_piles_alone_worked_by_hand(self):
        mill = Mill([piles(2), piles(3)])
        codes = [word_code(mill, 0, word) for word in words_of(mill, 0)]
        self.assertEqual(codes, [1, 3, 5, 0, 2, 4])
        self.assertEqual([word_code(mill, 1, word) for word in words_of(mill, 1)], [0, 2, 4])

    def test_1_3_the_empty_word_has_the_greatest_code_and_the_face_1(self):
        for text in MILLS:
            mill = mill_of(text)
            self.assertEqual(word_code(mill, mill.many(), ()), mill.codes() - 1)
            self.assertEqual(face(mill, mill.many(), ()), 1)
            self.assertEqual(code_word(mill, mill.many(), mill.codes() - 1), ())

    def test_1_3_faces(self):
        for late, word, told in (
            (0, (0, 0), -1), (0, (0, 1), 1), (0, (1, 0), 1), (0, (1, 1), -1),
            (1, (0,), -1), (1, (1,), 1), (2, (), 1),
        ):
            self.assertEqual(face(self.mill, late, word), told)
        mill = mill_of("p p p p p p")
        for late in range(7):
            self.assertEqual(face(mill, late, (0,) * (6 - late)), (-1) ** late)

    def test_1_4_words_and_codes_belong_to_one_another(self):
        for text in MILLS:
            mill = mill_of(text)
            for late in range(mill.many() + 1):
                words = words_of(mill, late)
                codes = {word_code(mill, late, word): word for word in words}
                self.assertEqual(len(codes), len(words))
                for code in range(mill.codes()):
                    self.assertEqual(code_word(mill, late, code), codes.get(code))
            self.assertEqual(sorted(word_code(mill, 0, word) for word in words_of(mill, 0)),
                             list(range(mill.codes())))

    def test_0_3_a_word_is_told_as_a_tuple_and_a_code_as_a_number(self):
        self.assertIs(type(code_word(self.mill, 0, 0)), tuple)
        self.assertIs(type(code_word(self.mill, 2, 3)), tuple)
        self.assertIsNone(code_word(self.mill, 1, 1))
        self.assertIs(type(word_code(self.mill, 0, (0, 0))), int)
        self.assertIs(type(face(self.mill, 0, (0, 0))), int)
        self.assertIs(fits(self.mill, 0, (0, 0), 1), True)
        self.assertIs(fits(self.mill, 0, (0, 0), 9), False)

    def test_1_2_a_word_fits_where_each_pocket_does(self):
        for late, word, most in (
            (0, (0, 0), 8), (0, (0, 1), 5), (0, (1, 0), 7), (0, (1, 1), 5), (1, (0,), 8), (1, (1,), 5), (2, (), 9),
        ):
            for size in range(1, 10):
                self.assertEqual(fits(self.mill, late, word, size), size <= most)

    def test_1_2_nothing_fits_a_pocket_of_width_0_and_all_fit_width_9(self):
        mill = Mill([[("queue", 0), ("pile", 0), ("queue", 9), ("pile", 9)]])
        for size in range(1, 10):
            self.assertEqual([fits(mill, 0, (number,), size) for number in range(4)], [False, False, True, True])
            self.assertTrue(fits(mill, 1, (), size))

    def test_0_5_the_same_question_has_the_same_answer(self):
        first = [code_word(self.mill, 0, code) for code in range(4)]
        self.assertEqual(first, [code_word(self.mill, 0, code) for code in range(4)])


class Refusals(unittest.TestCase):
    def setUp(self):
        self.mill = Mill([queues(2), piles(3)])

    def each(self, wanted, late, word):
        refuses(self, wanted, word_code, self.mill, late, word)
        refuses(self, wanted, face, self.mill, late, word)
        refuses(self, wanted, fits, self.mill, late, word, 1)

    def test_1_5_bad_late(self):
        for late in (-1, 3, 10 ** 59, -10 ** 59, True, False, None, "0"):
            for word in ((), (0,), (0, 0)):
                self.each(BadLate, late, word)
            refuses(self, BadLate, code_word, self.mill, late, 0)
        refuses(self, BadLate, word_code, Mill([]), 1, ())
        refuses(self, BadLate, word_code, Mill([]), -1, ())

    def test_1_5_bad_word(self):
        for late, word in (
            (0, ()), (0, (0,)), (0, (0, 0, 0)), (0, (2, 0)), (0, (0, 3)), (0, (-1, 0)), (0, (0, -1)),
            (0, (2, 3)), (1, ()), (1, (3,)), (1, (-1,)), (1, (0, 0)), (2, (0,)), (2, (0, 0)),
            (0, (10 ** 59, 0)), (0, (True, 0)), (0, (0, False)), (0, (0, "0")), (0, (0, None)),
            (0, [0, 0]), (0, "00"), (0, None), (2, []),
        ):
            self.each(BadWord, late, word)

    def test_1_5_bad_code(self):
        for late in range(3):
            for code in (-1, 6, 7, 10 ** 59, -10 ** 59, True, False, None, "0"):
                refuses(self, BadCode, code_word, self.mill, late, code)
        self.assertEqual(code_word(Mill([]), 0, 0), ())
        refuses(self, BadCode, code_word, Mill([]), 0, 1)
        refuses(self, BadCode, code_word, Mill([]), 0, -1)

    def test_1_5_bad_size(self):
        for size in (0, 10, -1, 10 ** 59, True, False, None, "1"):
            refuses(self, BadSize, fits, self.mill, 0, (0, 0), size)
            refuses(self, BadSize, fits, self.mill, 2, (), size)
        refuses(self, BadSize, fits, Mill([[("queue", 0)]]), 0, (0,), 10)

    def test_0_4_what_is_handed_in_first_is_refused_first(self):
        self.each(BadLate, 3, (9, 9))
        self.each(BadLate, -1, ())
        refuses(self, BadLate, fits, self.mill, 3, (0, 0), 0)
        refuses(self, BadLate, fits, self.mill, 3, (9, 9), 0)
        refuses(self, BadWord, fits, self.mill, 0, (2, 0), 0)
        refuses(self, BadWord, fits, self.mill, 0, (), 10)
        refuses(self, BadLate, code_word, self.mill, 3, 6)
        refuses(self, BadLate, code_word, self.mill, -1, -1)

    def test_0_4_what_is_refused_changes_nothing(self):
        before = self.mill.passes
        self.each(BadWord, 0, (2, 0))
        refuses(self, BadCode, code_word, self.mill, 0, 6)
        self.assertEqual(self.mill.passes, before)
        self.assertEqual(word_code(self.mill, 0, (1, 2)), 4)


if __name__ == "__main__":
    unittest.main()
