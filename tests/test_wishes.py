import copy
import unittest
from itertools import permutations

from helper import all_lists_are_own, levels_in, numbered, refuses
from pocketmill.errors import BadWish
from pocketmill.wishes import Wish


class Groups(unittest.TestCase):
    def test_3_1_groups_are_kept_as_they_are_told(self):
        groups = [("row", [4, 1]), ("any", [5, 0]), ("come", [3, 2])]
        wish = Wish(numbered(6), groups)
        self.assertEqual(wish.groups, groups)
        self.assertIs(type(wish.groups), list)
        for group in wish.groups:
            self.assertEqual((type(group), type(group[1])), (tuple, list))

    def test_3_1_without_letters_the_wish_has_no_groups(self):
        wish = Wish([], [])
        self.assertEqual((wish.groups, wish.levels()), ([], []))
        self.assertEqual((wish.breach([]), wish.kept_by([]), wish.one_order()), (None, True, True))
        for kind in ("any", "come", "row"):
            refuses(self, BadWish, Wish, [], [(kind, [])])
            refuses(self, BadWish, Wish, [], [(kind, [0])])

    def test_3_1_24_letters(self):
        for kind in ("any", "come", "row"):
            self.assertEqual(Wish(numbered(24), [(kind, list(range(24)))]).groups, [(kind, list(range(24)))])
        self.assertEqual(len(Wish(numbered(24), [("any", [letter]) for letter in range(24)]).levels()), 24)
        refuses(self, BadWish, Wish, numbered(24), [("any", list(range(23)))])
        refuses(self, BadWish, Wish, numbered(24), [("any", list(range(25)))])

    def test_3_1_more_letters_are_nothing_that_a_wish_refuses(self):
        self.assertEqual(Wish(numbered(25), [("any", list(range(25)))]).levels(), [list(range(25))])

    def test_3_1_a_letter_that_no_group_has(self):
        refuses(self, BadWish, Wish, numbered(1), [])
        for groups in ([], [("any", [0, 1])], [("row", [2, 1])], [("come", [0]), ("any", [2])]):
            refuses(self, BadWish, Wish, numbered(3), groups)

    def test_3_1_a_letter_told_twice(self):
        for kind in ("any", "come", "row"):
            for groups in (
                [(kind, [0, 1, 1])], [(kind, [0, 1, 2, 0])], [(kind, [2, 2]), ("any", [0, 1])],
                [(kind, [0, 1]), (kind, [1, 2])], [("any", [0]), (kind, [1, 2]), ("row", [0])],
                [(kind, [0, 1, 2]), (kind, [0, 1, 2])],
            ):
                refuses(self, BadWish, Wish, numbered(3), groups)

    def test_3_1_a_number_that_is_none(self):
        for number in (-1, 3, 4, 24, 10 ** 59, -10 ** 59, True, False, None, "2"):
            for kind in ("any", "come", "row"):
                refuses(self, BadWish, Wish, numbered(3), [(kind, [0, 1, 2, number])])
                refuses(self, BadWish, Wish, numbered(3), [(kind, [0, 1, number])])
                refuses(self, BadWish, Wish, numbered(3), [("any", [0, 1]), (kind, [number])])
                refuses(self, BadWish, Wish, numbered(3), [("any", [0, 2]), (kind, [number])])

    def test_3_1_an_empty_group(self):
        for kind in ("any", "come", "row"):
            refuses(self, BadWish, Wish, numbered(2), [(kind, [])])
            refuses(self, BadWish, Wish, numbered(2), [("any", [0, 1]), (kind, [])])
            refuses(self, BadWish, Wish, numbered(2), [(kind, []), ("row", [0, 1])])
            refuses(self, BadWish, Wish, numbered(2), [("row", [0]), (kind, []), ("row", [1])])

    def test_3_1_a_kind_that_is_none(self):
        for kind in ("", "all", "Any", "rows", "an", "queue", "pile", "any ", None, 0, ()):
            refuses(self, BadWish, Wish, numbered(2), [(kind, [0, 1])])
            refuses(self, BadWish, Wish, numbered(2), [("row", [1]), (kind, [0])])

    def test_3_1_other_forms_are_no_groups(self):
        for group in (
            ("any",), ("any", [0], [0]), (), ["any", [0]], "any", None, 0, ("any", 0), ("any", None), ([0], "any"),
        ):
            refuses(self, BadWish, Wish, numbered(1), [group])
        for groups in (None, 0, "any", ("any", [0])):
            refuses(self, BadWish, Wish, numbered(1), groups)

    def test_3_1_sizes_and_lates_are_not_looked_at(self):
        letters = [(0, -1), (10, 7), (-10 ** 59, 10 ** 59), (10 ** 59, -10 ** 59)]
        self.assertEqual(Wish(letters, [("any", [3, 1]), ("row", [2, 0])]).levels(), [[1, 3], [2], [0]])
        self.assertEqual(Wish(letters, [("come", [0, 1, 2, 3])]).levels(), [[3], [0], [1], [2]])


class Levels(unittest.TestCase):
    def setUp(self):
        self.letters = [(1, 2), (1, 0), (1, 1), (1, 0), (1, 2), (1, 1), (1, 3)]

    def test_3_2_any_has_one_level_by_the_numbers(self):
        for members in permutations(range(4)):
            self.assertEqual(Wish(numbered(4), [("any", list(members))]).levels(), [[0, 1, 2, 3]])
        self.assertEqual(Wish(self.letters, [("any", [6, 5, 4, 3, 2, 1, 0])]).levels(), [[0, 1, 2, 3, 4, 5, 6]])

    def test_3_2_row_has_a_level_for_each_as_told(self):
        for members in permutations(range(4)):
            levels = Wish(self.letters[:4], [("row", list(members))]).levels()
            self.assertEqual(levels, [[letter] for letter in members])

    def test_3_2_come_has_a_level_for_each_as_they_come(self):
        for members in ([0, 1, 2, 3, 4, 5, 6], [6, 5, 4, 3, 2, 1, 0], [3, 6, 0, 5, 1, 4, 2]):
            levels = Wish(self.letters, [("come", members)]).levels()
            self.assertEqual(levels, [[1], [3], [2], [5], [0], [4], [6]])
        self.assertEqual(Wish(numbered(3), [("come", [2, 0, 1])]).levels(), [[0], [1], [2]])

    def test_3_2_come_does_not_look_at_sizes(self):
        self.assertEqual(Wish([(9, 0), (1, 0), (5, 0)], [("come", [2, 1, 0])]).levels(), [[0], [1], [2]])

    def test_3_2_levels_stand_in_the_order_of_the_groups(self):
        for groups, levels in (
            ([("any", [6, 2]), ("row", [5, 1]), ("come", [4, 3, 0])], [[2, 6], [5], [1], [3], [0], [4]]),
            ([("come", [4, 3, 0]), ("any", [6, 2]), ("row", [5, 1])], [[3], [0], [4], [2, 6], [5], [1]]),
            ([("row", [6]), ("any", [4]), ("come", [2]), ("any", [5, 3, 1, 0])], [[6], [4], [2], [0, 1, 3, 5]]),
            ([("come", [0, 1]), ("come", [2, 3]), ("any", [6, 5]), ("any", [4])], [[1], [0], [3], [2], [5, 6], [4]]),
        ):
            self.assertEqual(Wish(self.letters, groups).levels(), levels)

    def test_3_2_level_of_a_letter(self):
        wish = Wish(self.letters, [("any", [6, 2]), ("row", [5, 1]), ("come", [4, 3, 0])])
        self.assertEqual([wish.level_of(letter) for letter in range(7)], [4, 2, 0, 3, 5, 1, 0])

    def test_3_2_behind_where_the_level_stands_behind(self):
        wish = Wish(self.letters, [("any", [6, 2]), ("row", [5, 1]), ("come", [4, 3, 0])])
        order = [[2, 6], [5], [1], [3], [0], [4]]
        for later, level in enumerate(order):
            for earlier, other_level in enumerate(order):
                for one in level:
                    for other in other_level:
                        self.assertIs(wish.behind(one, other), later > earlier)

    def test_0_3_kinds_of_what_is_told(self):
        wish = Wish(self.letters[:3], [("any", [2, 0]), ("row", [1])])
        self.assertEqual([type(told) for told in [wish.levels()] + wish.levels()], [list] * 3)
        self.assertEqual((type(wish.level_of(0)), type(wish.breach([1, 0, 2]))), (int, tuple))


class Rows(unittest.TestCase):
    def setUp(self):
        self.wish = Wish([(1, 1), (1, 0), (1, 0), (1, 0), (1, 0)], [("any", [3, 1]), ("row", [4, 2]), ("come", [0])])

    def test_3_3_rows_that_keep_the_wish(self):
        for row in ([1, 3, 4, 2, 0], [3, 1, 4, 2, 0]):
            self.assertIsNone(self.wish.breach(row))
            self.assertIs(self.wish.kept_by(row), True)

    def test_3_3_rows_with_a_breach_the_first_of_several(self):
        for row, breach in (
            ([1, 3, 2, 4, 0], (2, 4)), ([1, 3, 4, 0, 2], (0, 2)), ([4, 1, 3, 2, 0], (4, 1)), ([1, 4, 3, 2, 0], (4, 3)),
            ([0, 2, 4, 3, 1], (0, 2)), ([4, 0, 1, 3, 2], (0, 1)), ([1, 4, 3, 0, 2], (4, 3)), ([3, 2, 4, 0, 1], (2, 4)),
        ):
            self.assertEqual(self.wish.breach(row), breach)
            self.assertIs(self.wish.kept_by(row), False)

    def test_3_3_one_letter_and_one_level_are_kept_by_all_rows(self):
        self.assertTrue(Wish(numbered(1), [("row", [0])]).kept_by([0]))
        wish = Wish(numbered(4), [("any", [0, 1, 2, 3])])
        self.assertTrue(all(wish.kept_by(list(row)) for row in permutations(range(4))))

    def test_3_3_in_all_rows_of_all_wishes_of_few_letters(self):
        for count in range(5):
            for levels in levels_in(count):
                wish = Wish(numbered(count), [("any", list(level)) for level in levels])
                for row in permutations(range(count)):
                    breaches = [pair for pair in zip(row, row[1:]) if wish.behind(*pair)]
                    kept = not any(wish.behind(one, other) for k, one in enumerate(row) for other in row[k + 1:])
                    self.assertIs(wish.kept_by(list(row)), kept)
                    self.assertEqual(wish.breach(list(row)), None if kept else breaches[0])

    def test_3_3_24_letters(self):
        row = [letter * 7 % 24 for letter in range(24)]
        wish = Wish(numbered(24), [("row", row)])
        self.assertTrue(wish.kept_by(row))
        turned = row[:22] + [row[23], row[22]]
        self.assertEqual(wish.breach(turned), (row[23], row[22]))

    def test_3_4_one_order_where_each_level_has_one_letter(self):
        letters = [(1, 1), (1, 0), (1, 2)]
        for groups, told in (
            ([("row", [2, 0, 1])], True), ([("come", [2, 0, 1])], True), ([("any", [1]), ("come", [0, 2])], True),
            ([("any", [2]), ("any", [0]), ("any", [1])], True), ([("any", [2, 0, 1])], False),
            ([("any", [1, 2]), ("row", [0])], False), ([("row", [1]), ("any", [0, 2])], False),
        ):
            self.assertIs(Wish(letters, groups).one_order(), told)
        self.assertIs(Wish([], []).one_order(), True)


class OwnLists(unittest.TestCase):
    def setUp(self):
        self.letters = [(1, 1), (1, 0), (1, 2), (1, 0)]
        self.groups = [("come", [2, 0]), ("any", [3, 1])]

    def told(self, wish):
        return copy.deepcopy((wish.groups, wish.levels(), [wish.level_of(letter) for letter in range(4)],
                              wish.breach([1, 3, 0, 2]), wish.kept_by([0, 2, 1, 3]), wish.one_order()))

    def test_0_2_what_is_handed_in_stays_as_it_was(self):
        letters, groups, row = copy.deepcopy((self.letters, self.groups, [1, 3, 0, 2]))
        wish = Wish(letters, groups)
        self.told(wish)
        wish.breach(row)
        wish.kept_by(row)
        self.assertEqual((letters, groups, row), (self.letters, self.groups, [1, 3, 0, 2]))

    def test_0_2_what_is_refused_stays_as_it_was(self):
        letters, groups = copy.deepcopy((self.letters, self.groups + [("row", [1])]))
        refuses(self, BadWish, Wish, letters, groups)
        self.assertEqual((letters, groups), (self.letters, self.groups + [("row", [1])]))

    def test_0_2_changing_what_was_handed_in_changes_nothing(self):
        wish = Wish(self.letters, self.groups)
        before = self.told(wish)
        self.letters[0], self.letters[2] = self.letters[2], self.letters[0]
        self.letters.append((1, 0))
        self.groups[0][1].reverse()
        self.groups[1][1].append(4)
        self.groups.reverse()
        self.assertEqual(self.told(wish), before)
        self.letters.clear()
        self.groups.clear()
        self.assertEqual(self.told(wish), before)

    def test_0_2_changing_what_was_told_changes_nothing(self):
        wish = Wish(self.letters, self.groups)
        before = self.told(wish)
        levels = wish.levels()
        for level in levels:
            level.append(99)
        levels.clear()
        self.assertEqual(self.told(wish), before)

    def test_0_2_no_two_lists_are_one(self):
        wish = Wish(self.letters, self.groups)
        all_lists_are_own(self, wish.groups, wish.levels(), wish.levels(), self.groups, self.letters)
        other = Wish(self.letters, wish.groups)
        all_lists_are_own(self, wish.groups, other.groups, wish.levels(), other.levels())

    def test_0_5_the_same_question_has_the_same_answer(self):
        self.assertEqual(self.told(Wish(self.letters, self.groups)), self.told(Wish(self.letters, self.groups)))


if __name__ == "__main__":
    unittest.main()
