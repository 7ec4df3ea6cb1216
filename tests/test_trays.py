import copy
import unittest
from itertools import product

from helper import MILLS, mill_of, numbered, piles, queues, refuses, words_of
from pocketmill.errors import BadLetters, BadPlan
from pocketmill.mills import Mill, face, word_code
from pocketmill.trays import end_row, look_at_letters, look_at_plan, place_of, trays

ASKED_WITH_A_PLAN = (look_at_plan, trays, end_row, lambda mill, letters, plan: place_of(mill, letters, plan, 0))


class Letters(unittest.TestCase):
    def setUp(self):
        self.mill = Mill([queues(2), piles(2)])

    def refuses_letters(self, letters):
        refuses(self, BadLetters, look_at_letters, self.mill, letters)
        plan = [(0, 0)] * len(letters)
        for function in ASKED_WITH_A_PLAN:
            refuses(self, BadLetters, function, self.mill, letters, plan)

    def test_2_1_letters_that_a_mill_takes(self):
        spread_out = [(size, late) for size in range(1, 9) for late in range(3)]
        for letters in ([], [(1, 0)], [(9, 2), (1, 1), (5, 0)], spread_out):
            self.assertIsNone(look_at_letters(self.mill, letters))
        self.assertIsNone(look_at_letters(Mill([]), [(3, 0)]))

    def test_2_1_at_most_24(self):
        self.assertIsNone(look_at_letters(self.mill, numbered(24)))
        self.assertEqual(len(end_row(self.mill, numbered(24), [(0, 0)] * 24)), 24)
        self.refuses_letters(numbered(25))
        self.refuses_letters(numbered(100))

    def test_2_1_bad_sizes(self):
        for size in (0, 10, -1, 10 ** 59, True, False, None, "1"):
            self.refuses_letters([(size, 0)])
            self.refuses_letters([(1, 0), (2, 1), (size, 2)])

    def test_2_1_bad_lates(self):
        for late in (-1, 3, 10 ** 59, True, False, None, "0"):
            self.refuses_letters([(1, late)])
            self.refuses_letters([(1, 0), (2, 1), (3, late)])
        refuses(self, BadLetters, look_at_letters, Mill([]), [(1, 1)])
        refuses(self, BadLetters, look_at_letters, Mill([queues(1)]), [(1, 2)])

    def test_2_1_other_forms_are_no_letters(self):
        for letter in ((), (1,), (1, 0, 0), [1, 0], None, 1):
            self.refuses_letters([letter])


class Plans(unittest.TestCase):
    def setUp(self):
        self.mill = Mill([[("queue", 9), ("pile", 4)], [("pile", 5), ("queue", 0)]])
        self.letters = [(4, 0), (5, 1), (9, 2)]

    def refuses_plan(self, plan):
        for function in ASKED_WITH_A_PLAN:
            refuses(self, BadPlan, function, self.mill, self.letters, plan)

    def test_2_2_plans_that_the_letters_take(self):
        for plan in ([(0, 0), (0,), ()], [(1, 0), (0,), ()]):
            self.assertIsNone(look_at_plan(self.mill, self.letters, plan))
        self.assertIsNone(look_at_plan(self.mill, [], []))
        self.assertIsNone(look_at_plan(Mill([]), [(1, 0), (9, 0)], [(), ()]))

    def test_2_2_as_many_words_as_letters(self):
        self.refuses_plan([])
        self.refuses_plan([(0, 0), (0,)])
        self.refuses_plan([(0, 0), (0,), (), ()])
        refuses(self, BadPlan, trays, self.mill, [], [()])
        refuses(self, BadPlan, trays, Mill([]), [(1, 0)], [])

    def test_2_2_each_word_is_one_of_its_letter(self):
        for word in ((), (0,), (0, 0, 0), (2, 0), (0, 2), (-1, 0), (0, -1), (True, 0), (0, None), [0, 0], None):
            self.refuses_plan([word, (0,), ()])
        for word in ((), (2,), (-1,), (0, 0), [0]):
            self.refuses_plan([(0, 0), word, ()])
        for word in ((0,), (0, 0), []):
            self.refuses_plan([(0, 0), (0,), word])

    def test_2_2_each_word_fits_its_letter(self):
        self.refuses_plan([(0, 1), (0,), ()])
        self.refuses_plan([(0, 0), (1,), ()])
        for size, word, fitting in ((5, (1, 0), False), (4, (1, 0), True), (5, (0, 0), True), (6, (0, 0), False)):
            if fitting:
                self.assertIsNone(look_at_plan(self.mill, [(size, 0)], [word]))
            else:
                refuses(self, BadPlan, look_at_plan, self.mill, [(size, 0)], [word])

    def test_0_4_letters_are_refused_ahead_of_the_plan(self):
        for letters, plan in (([(0, 0)], []), ([(1, 3)], [(9, 9)]), (numbered(25), []), ([(1, 0), (10, 0)], [(9, 9)])):
            for function in ASKED_WITH_A_PLAN:
                refuses(self, BadLetters, function, self.mill, letters, plan)


class Trays(unittest.TestCase):
    def setUp(self):
        self.mill = Mill([[("queue", 9), ("pile", 7)], [("pile", 8), ("queue", 5)]])
        self.letters = [(1, 0), (1, 0), (2, 1), (3, 0), (9, 2), (5, 1), (5, 0)]
        self.plan = [(0, 0), (1, 0), (0,), (1, 0), (), (1,), (0, 1)]
        self.rows = [[0, 1, 3, 6], [0, 6, 3, 1, 2, 5], [2, 1, 3, 0, 6, 5, 4]]

    def test_2_3_trays_worked_by_hand(self):
        self.assertEqual(trays(self.mill, self.letters, self.plan), self.rows)
        self.assertEqual(end_row(self.mill, self.letters, self.plan), self.rows[2])

    def test_2_3_a_queue_keeps_and_a_pile_turns_round(self):
        row = list(range(24))
        self.assertEqual(trays(mill_of("q"), numbered(24), [(0,)] * 24), [row, row])
        self.assertEqual(trays(mill_of("p"), numbered(24), [(0,)] * 24), [row, row[::-1]])
        self.assertEqual(trays(mill_of("p p"), numbered(24), [(0, 0)] * 24), [row, row[::-1], row])
        self.assertEqual(end_row(mill_of("p q p p"), numbered(24), [(0,) * 4] * 24), row[::-1])

    def test_2_3_pockets_are_emptied_from_pocket_0_on(self):
        plan = [(2,), (0,), (1,), (0,), (2,), (1,)]
        self.assertEqual(end_row(mill_of("qqq"), numbered(6), plan), [1, 3, 2, 5, 0, 4])
        self.assertEqual(end_row(mill_of("ppp"), numbered(6), plan), [3, 1, 5, 2, 4, 0])
        self.assertEqual(end_row(mill_of("qpq"), numbered(6), plan), [1, 3, 5, 2, 0, 4])

    def test_2_3_those_that_join_stand_behind_all_others_by_their_numbers(self):
        letters = [(1, 2), (1, 1), (1, 0), (1, 2), (1, 0), (1, 1)]
        plan = [(), (0,), (0, 0), (), (0, 0), (0,)]
        self.assertEqual(trays(mill_of("q q"), letters, plan), [[2, 4], [2, 4, 1, 5], [2, 4, 1, 5, 0, 3]])
        self.assertEqual(trays(mill_of("p p"), letters, plan), [[2, 4], [4, 2, 1, 5], [5, 1, 2, 4, 0, 3]])

    def test_2_3_rows_may_be_empty(self):
        self.assertEqual(trays(mill_of("q p"), [(1, 2), (1, 2)], [(), ()]), [[], [], [0, 1]])
        self.assertEqual(trays(mill_of("q p qq"), [], []), [[], [], [], []])
        self.assertEqual(end_row(mill_of("q"), [], []), [])

    def test_2_3_without_passes_the_letters_are_the_only_tray(self):
        for count in (0, 1, 5, 24):
            self.assertEqual(trays(Mill([]), numbered(count), [()] * count), [list(range(count))])
            self.assertEqual(end_row(Mill([]), numbered(count), [()] * count), list(range(count)))

    def test_2_3_one_row_more_than_passes_and_the_last_one_is_the_end_row(self):
        for text in MILLS:
            mill, letters, plan = spread(text)
            rows = trays(mill, letters, plan)
            self.assertEqual(len(rows), mill.many() + 1)
            self.assertEqual(end_row(mill, letters, plan), rows[-1])
            for step, row in enumerate(rows):
                self.assertEqual(sorted(row), [k for k, letter in enumerate(letters) if letter[1] <= step])

    def test_0_3_rows_are_lists_and_places_are_tuples(self):
        rows = trays(self.mill, self.letters, self.plan)
        self.assertEqual([type(row) for row in [rows] + rows], [list] * 4)
        self.assertIs(type(end_row(self.mill, self.letters, self.plan)), list)
        self.assertIs(type(place_of(self.mill, self.letters, self.plan, 0)), tuple)


class Places(unittest.TestCase):
    def test_2_4_places_worked_by_hand(self):
        case = Trays()
        case.setUp()
        places = [place_of(case.mill, case.letters, case.plan, letter) for letter in range(7)]
        self.assertEqual(places, [(1, 0), (0, 1), (0, -9), (0, 3), (3, 18), (3, 12), (2, 6)])

    def test_2_4_without_passes(self):
        places = [place_of(Mill([]), numbered(3), [()] * 3, letter) for letter in range(3)]
        self.assertEqual(places, [(0, 0), (0, 1), (0, 2)])

    def test_2_4_a_place_is_code_and_face_times_number_and_late(self):
        for text in MILLS:
            mill, letters, plan = spread(text)
            for number, (letter, word) in enumerate(zip(letters, plan)):
                key = face(mill, letter[1], word) * (number + len(letters) * letter[1])
                self.assertEqual(place_of(mill, letters, plan, number), (word_code(mill, letter[1], word), key))

    def ends_by_rising_places(self, mill, letters, plan):
        places = [place_of(mill, letters, plan, letter) for letter in range(len(letters))]
        self.assertEqual(len(set(places)), len(letters))
        self.assertEqual(end_row(mill, letters, plan), sorted(range(len(letters)), key=lambda k: places[k]))

    def test_2_4_the_end_row_has_rising_places(self):
        for text in MILLS:
            self.ends_by_rising_places(*spread(text))

    def test_2_4_in_all_plans_of_small_mills(self):
        for kinds in product("qp", repeat=3):
            mill = mill_of("%s%s %s" % kinds)
            for lates in product(range(3), repeat=3):
                letters = [(1, late) for late in lates]
                for plan in product(*[words_of(mill, late) for late in lates]):
                    self.ends_by_rising_places(mill, letters, list(plan))


class OwnLists(unittest.TestCase):
    def setUp(self):
        self.mill, self.letters, self.plan = spread("pq qp pp")

    def test_0_2_what_is_handed_in_stays_as_it_was(self):
        letters, plan = copy.deepcopy(self.letters), copy.deepcopy(self.plan)
        look_at_letters(self.mill, self.letters)
        for function in ASKED_WITH_A_PLAN:
            function(self.mill, self.letters, self.plan)
        self.assertEqual((self.letters, self.plan), (letters, plan))

    def test_0_2_what_is_refused_stays_as_it_was(self):
        passes = self.mill.passes
        self.plan[0] = (7, 7, 7)
        letters, plan = copy.deepcopy(self.letters), copy.deepcopy(self.plan)
        for function in ASKED_WITH_A_PLAN:
            refuses(self, BadPlan, function, self.mill, self.letters, self.plan)
        self.assertEqual((self.mill.passes, self.letters, self.plan), (passes, letters, plan))

    def test_0_2_changing_what_was_handed_in_changes_nothing_told(self):
        rows, end = trays(self.mill, self.letters, self.plan), end_row(self.mill, self.letters, self.plan)
        before = copy.deepcopy((rows, end))
        self.letters.clear()
        self.plan.clear()
        self.assertEqual((rows, end), before)

    def test_0_2_changing_what_was_told_changes_nothing(self):
        before = copy.deepcopy(trays(self.mill, self.letters, self.plan))
        rows, end = trays(self.mill, self.letters, self.plan), end_row(self.mill, self.letters, self.plan)
        for row in rows:
            row.append(99)
        rows.clear()
        self.assertEqual(end, before[-1])
        end.clear()
        self.assertEqual(trays(self.mill, self.letters, self.plan), before)
        self.assertEqual(end_row(self.mill, self.letters, self.plan), before[-1])

    def test_0_2_no_two_lists_are_one(self):
        for text in MILLS:
            handed = spread(text)
            lists = [end_row(*handed)]
            for rows in (trays(*handed), trays(*handed), trays(handed[0], [], [])):
                lists.extend([rows] + rows)
            self.assertEqual(len({id(told) for told in lists}), len(lists))


def spread(text):
    """A mill, 24 letters that join all along it, and a plan that scatters them."""
    mill = mill_of(text)
    letters = [(1 + number % 9, number * 5 % (mill.many() + 1)) for number in range(24)]
    plan = []
    for number, letter in enumerate(letters):
        words = words_of(mill, letter[1])
        plan.append(words[number * 7 % len(words)])
    return mill, letters, plan


if __name__ == "__main__":
    unittest.main()
