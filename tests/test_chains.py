import copy
import unittest

from helper import OwnListsTests, mill_of, numbered, refuses
from pocketmill.chains import bars, chain_places, does
from pocketmill.errors import BadLetters, BadPlan
from pocketmill.mills import Mill
from pocketmill.wishes import Wish


class Sample(unittest.TestCase):
    def setUp(self):
        self.mill = Mill([[("queue", 9), ("pile", 7)], [("pile", 8), ("queue", 5)]])
        # Their open places are, in this order: (0, 0), (1, 0), (2, 0), (3, 0); (1, -1); (0, -7); (3, 13); none.
        self.letters = [(1, 0), (8, 0), (6, 1), (9, 2), (9, 0)]
        self.wish = Wish(self.letters, [("row", [1, 0]), ("any", [2, 3]), ("row", [4])])


class ChainPlaces(Sample):
    def test_4_3_places_go_from_the_first_letter_on(self):
        for chain, places in (
            ([0], [(0, 0)]), ([1], [(1, -1)]), ([2], [(0, -7)]), ([3], [(3, 13)]),
            ([0, 1], [(0, 0), (1, -1)]), ([1, 0], [(1, -1), (1, 0)]),
            ([2, 0, 1, 3], [(0, -7), (0, 0), (1, -1), (3, 13)]), ([2, 1, 0, 3], [(0, -7), (1, -1), (1, 0), (3, 13)]),
        ):
            self.assertEqual(chain_places(self.mill, self.letters, chain), places)

    def test_4_3_a_chain_of_none(self):
        self.assertEqual(chain_places(self.mill, self.letters, []), [])
        self.assertEqual(chain_places(self.mill, [], []), [])
        self.assertEqual(chain_places(Mill([]), [], []), [])

    def test_4_3_none_at_the_end_where_a_letter_has_none(self):
        for chain, places in (
            ([4], [None]), ([1, 2], [(1, -1), None]), ([3, 0], [(3, 13), None]), ([0, 2], [(0, 0), None]),
            ([0, 1, 0, 4], [(0, 0), (1, -1), (1, 0), None]),
        ):
            self.assertEqual(chain_places(self.mill, self.letters, chain), places)

    def test_4_3_nothing_is_told_behind_the_first_none(self):
        for chain, places in (
            ([4, 0], [None]), ([4, 4], [None]), ([1, 2, 0], [(1, -1), None]), ([3, 0, 2, 1, 0], [(3, 13), None]),
            ([0, 2, 3, 4], [(0, 0), None]),
        ):
            self.assertEqual(chain_places(self.mill, self.letters, chain), places)

    def test_4_3_a_letter_more_than_once(self):
        for chain, places in (
            ([0, 0], [(0, 0), (1, 0)]), ([0] * 4, [(0, 0), (1, 0), (2, 0), (3, 0)]),
            ([0] * 5, [(0, 0), (1, 0), (2, 0), (3, 0), None]), ([0] * 40, [(0, 0), (1, 0), (2, 0), (3, 0), None]),
            ([1, 1], [(1, -1), None]), ([0, 1, 0, 0], [(0, 0), (1, -1), (1, 0), (2, 0)]),
        ):
            self.assertEqual(chain_places(self.mill, self.letters, chain), places)

    def test_4_3_a_mill_without_passes(self):
        letters = numbered(3)
        self.assertEqual(chain_places(Mill([]), letters, [0, 1, 2]), [(0, 0), (0, 1), (0, 2)])
        self.assertEqual(chain_places(Mill([]), letters, [0, 2, 1]), [(0, 0), (0, 2), None])

    def test_4_3_24_letters(self):
        chain = list(range(23, -1, -1))
        self.assertEqual(chain_places(mill_of("q"), numbered(24), chain), [(0, 23), None])
        self.assertEqual(chain_places(mill_of("p"), numbered(24), chain), [(0, -letter) for letter in chain])
        places = chain_places(mill_of("qqqqq qqqqq"), numbered(24), chain)
        self.assertEqual(places, [(23 - letter, letter) for letter in chain])

    def test_0_3_a_list_of_tuples(self):
        places = chain_places(self.mill, self.letters, [0, 1, 2])
        self.assertEqual([type(told) for told in [places] + places[:2]], [list, tuple, tuple])


class Bars(Sample):
    def told(self, chain):
        return bars(self.mill, self.letters, self.wish, chain)

    def test_4_3_chains_that_bar(self):
        for chain in ([4], [1, 2], [0, 2], [1, 0, 2], [1, 4], [3, 4], [1, 0, 3, 4], [0, 4]):
            self.assertIs(self.told(chain), True, chain)

    def test_4_3_chains_that_do_not_bar(self):
        for chain in ([0], [1], [2], [3], [1, 0], [1, 3], [0, 3], [1, 0, 3]):
            self.assertIs(self.told(chain), False, chain)

    def test_4_3_the_empty_list_does_not_bar(self):
        self.assertIs(self.told([]), False)
        self.assertIs(bars(Mill([]), [], Wish([], []), []), False)

    def test_4_3_chains_that_go_on_behind_the_first_none_do_not_bar(self):
        for chain in ([1, 2, 4], [0, 2, 4], [1, 0, 2, 4]):
            self.assertEqual(chain_places(self.mill, self.letters, chain)[-1], None)
            self.assertIs(self.told(chain), False, chain)

    def test_4_3_letters_that_are_not_wished_behind_the_one_ahead_do_not_bar(self):
        # Each of them ends with the only None, but tells less of the wish than it seems.
        for chain in ([3, 2], [3, 0], [0, 1, 2], [0, 0, 2], [1, 1], [1, 0, 1], [0, 1, 4], [3, 1], [0, 0, 0, 0, 0]):
            places = chain_places(self.mill, self.letters, chain)
            self.assertEqual((len(places), places.index(None)), (len(chain), len(chain) - 1))
            self.assertIs(self.told(chain), False, chain)

    def test_4_3_letters_without_an_open_place_bar_by_themselves(self):
        letters = [(1, 0), (2, 0)]
        wish = Wish(letters, [("any", [0, 1])])
        narrow = Mill([[("queue", 1), ("pile", 0)]])
        self.assertIs(bars(narrow, letters, wish, [1]), True)
        self.assertIs(bars(narrow, letters, wish, [0]), False)
        self.assertIs(bars(narrow, letters, wish, [0, 1]), False)
        self.assertIs(bars(narrow, letters, wish, [1, 1]), False)

    def test_4_3_a_mill_without_passes(self):
        wish = Wish(numbered(3), [("row", [0, 2, 1])])
        for chain, told in (([2, 1], True), ([0, 2, 1], True), ([0, 1], False), ([0, 2], False), ([1, 0], False)):
            self.assertIs(bars(Mill([]), numbered(3), wish, chain), told)

    def test_4_3_24_letters(self):
        chain = list(range(23, -1, -1))
        wish = Wish(numbered(24), [("row", chain)])
        self.assertIs(bars(mill_of("qqqqq qqqq"), numbered(24), wish, chain[:21]), True)
        for other in (chain[:20], chain[:22], chain):
            self.assertIs(bars(mill_of("qqqqq qqqq"), numbered(24), wish, other), False)
        self.assertIs(bars(mill_of("p"), numbered(24), wish, chain), False)


class Does(Sample):
    def setUp(self):
        Sample.setUp(self)
        self.letters = self.letters[:4]
        self.plan = [(1, 0), (0, 0), (0,), ()]

    def test_4_2_where_the_end_row_keeps_the_wish(self):
        # The plan's end row is 2, 0, 1, 3.
        for groups, told in (
            ([("row", [2, 0, 1, 3])], True), ([("any", [0, 1, 2, 3])], True),
            ([("any", [1, 2, 0]), ("row", [3])], True), ([("any", [0, 2]), ("any", [1, 3])], True),
            ([("any", [2]), ("come", [0, 1]), ("any", [3])], True),
            ([("row", [2, 1, 0, 3])], False), ([("any", [3]), ("any", [0, 1, 2])], False),
            ([("come", [0, 1, 2, 3])], False), ([("any", [1, 2]), ("any", [0, 3])], False),
        ):
            self.assertIs(does(self.mill, self.letters, Wish(self.letters, groups), self.plan), told)

    def test_4_2_other_plans_than_the_least_one_do_too(self):
        wish = Wish(self.letters, [("any", [2, 1]), ("any", [0, 3])])
        for word, told in (((1, 0), False), ((0, 0), True), ((0, 1), True), ((1, 1), True)):
            self.assertIs(does(self.mill, self.letters, wish, [word] + self.plan[1:]), told)

    def test_4_2_without_letters_and_without_passes(self):
        for text in ("", "q", "pp qq"):
            self.assertIs(does(mill_of(text), [], Wish([], []), []), True)
        self.assertIs(does(Mill([]), numbered(2), Wish(numbered(2), [("row", [0, 1])]), [(), ()]), True)
        self.assertIs(does(Mill([]), numbered(2), Wish(numbered(2), [("row", [1, 0])]), [(), ()]), False)

    def test_0_4_bad_plans(self):
        wish = Wish(self.letters, [("any", [0, 1, 2, 3])])
        for plan in (
            [], self.plan[:3], self.plan + [()],
            [(2, 0)] + self.plan[1:], [(0,)] + self.plan[1:], [(0, -1)] + self.plan[1:],
            [(1, 0), (1, 0), (0,), ()], [(1, 0), (0, 0), (1,), ()], [(1, 0), (0, 0), (0,), (0,)],
        ):
            refuses(self, BadPlan, does, self.mill, self.letters, wish, plan)


class Refusals(Sample):
    def test_0_4_bad_letters_go_first(self):
        for letters in (
            [(0, 0)], [(10, 0)], [(1, -1)], [(1, 3)], [(1, 0), (2, 1), (3, 3)], [(1, True)], [(False, 0)], numbered(25),
        ):
            wish = Wish(letters, [("any", list(range(len(letters))))])
            for chain in ([], [0], [0, 0]):
                refuses(self, BadLetters, chain_places, self.mill, letters, chain)
                refuses(self, BadLetters, bars, self.mill, letters, wish, chain)
            for plan in ([], [(0, 0)] * len(letters), [(9, 9)]):
                refuses(self, BadLetters, does, self.mill, letters, wish, plan)
        refuses(self, BadLetters, chain_places, Mill([]), [(1, 1)], [])


class OwnLists(OwnListsTests, Sample):
    def setUp(self):
        Sample.setUp(self)
        self.chain = [1, 0, 2]
        self.first_four = self.letters[:4]
        self.plan = [(1, 0), (0, 0), (0,), ()]
        self.keeping = Wish(self.first_four, [("row", [2, 0, 1, 3])])

    def handed(self):
        return [self.letters, self.chain, self.first_four, self.plan]

    def told(self):
        return [chain_places(self.mill, self.letters, self.chain), bars(self.mill, self.letters, self.wish, self.chain),
                does(self.mill, self.first_four, self.keeping, self.plan), chain_places(self.mill, self.letters, [])]

    def test_0_2_the_mill_and_the_wish_stay_as_they_were(self):
        before = copy.deepcopy((self.mill.passes, self.wish.groups, self.keeping.groups, self.handed()))
        self.assertEqual(self.told(), [[(1, -1), (1, 0), None], True, True, []])
        refuses(self, BadPlan, does, self.mill, self.letters, self.wish, self.plan)
        refuses(self, BadLetters, bars, Mill([]), self.letters, self.wish, self.chain)
        self.assertEqual((self.mill.passes, self.wish.groups, self.keeping.groups, self.handed()), before)
        self.assertEqual(self.wish.levels(), [[1], [0], [2, 3], [4]])


if __name__ == "__main__":
    unittest.main()
