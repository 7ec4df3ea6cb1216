import copy
import unittest
from itertools import permutations, product

from helper import MILLS, OwnListsTests, all_lists_are_own, levels_in, mill_of, numbered, refuses, words_of
from pocketmill.chains import bars, does
from pocketmill.errors import BadLetters
from pocketmill.least import least_plan, next_place, open_places
from pocketmill.mills import Mill, face, fits, word_code
from pocketmill.trays import end_row, place_of
from pocketmill.wishes import Wish

# No mill of two passes takes these.
BAD_LETTERS = [[(0, 0)], [(10, 0)], [(1, -1)], [(1, 3)], [(1, 0), (2, 1), (3, 3)], [(True, 0)], [(1, False)],
               numbered(25)]


def one_group(letters, kind="any"):
    return Wish(letters, [(kind, list(range(len(letters))))] if letters else [])


class Sample(unittest.TestCase):
    def setUp(self):
        # The codes and faces of its words are worked by hand in the tests of the mills.
        self.mill = Mill([[("queue", 9), ("pile", 7)], [("pile", 8), ("queue", 5)]])
        self.letters = [(1, 0), (8, 0), (6, 1), (9, 2)]
        self.places = [[(0, 0), (1, 0), (2, 0), (3, 0)], [(1, -1)], [(0, -6)], [(3, 11)]]


class OpenPlaces(Sample):
    def test_4_1_open_places_worked_by_hand(self):
        for letter, places in enumerate(self.places):
            self.assertEqual(open_places(self.mill, self.letters, letter), places)
        letters = [(1, 2), (7, 0), (5, 0), (5, 1)]
        for letter, places in (
            (0, [(3, 8)]), (1, [(0, 1), (1, -1)]), (2, [(0, 2), (1, -2), (2, 2), (3, -2)]), (3, [(0, -7), (3, 7)]),
        ):
            self.assertEqual(open_places(self.mill, letters, letter), places)

    def test_4_1_letters_that_have_no_open_place(self):
        self.assertEqual(open_places(self.mill, [(9, 0)], 0), [])
        self.assertEqual(open_places(self.mill, [(1, 0), (9, 1)], 1), [])
        shut = Mill([[("queue", 9)], [("queue", 0), ("pile", 0)]])
        for size in range(1, 10):
            self.assertEqual([len(open_places(shut, [(size, late)], 0)) for late in range(3)], [0, 0, 1])

    def test_4_1_a_mill_without_passes(self):
        for letter in range(3):
            self.assertEqual(open_places(Mill([]), [(9, 0), (1, 0), (5, 0)], letter), [(0, letter)])
            self.assertEqual(next_place(Mill([]), [(9, 0), (1, 0), (5, 0)], letter, None), (0, letter))
            self.assertIsNone(next_place(Mill([]), [(9, 0), (1, 0), (5, 0)], letter, (0, letter)))

    def test_4_1_open_places_are_those_of_the_words_that_fit(self):
        for text in MILLS:
            passes = mill_of(text).passes
            for step in (0, 1, 4):
                mill = Mill([[(kind, 9 - (number + at) * step % 10) for number, (kind, width) in enumerate(pockets)]
                             for at, pockets in enumerate(passes)])
                letters = [(1, 0), (5, 0), (1, mill.many()), (3, mill.many() // 2), (9, mill.many() // 3)]
                for letter, (size, late) in enumerate(letters):
                    key = letter + len(letters) * late
                    places = [(word_code(mill, late, word), face(mill, late, word) * key)
                              for word in words_of(mill, late) if fits(mill, late, word, size)]
                    self.assertEqual(open_places(mill, letters, letter), sorted(places))

    def test_4_1_next_place_beyond_none_is_the_least_open_one(self):
        for letter, places in enumerate(self.places):
            self.assertEqual(next_place(self.mill, self.letters, letter, None), places[0])
        self.assertIsNone(next_place(self.mill, [(9, 0)], 0, None))

    def test_4_1_next_place_beyond_a_place_that_is_open(self):
        for place, told in zip(self.places[0], self.places[0][1:]):
            self.assertEqual(next_place(self.mill, self.letters, 0, place), told)

    def test_4_1_next_place_beyond_the_last_one(self):
        for letter, places in enumerate(self.places):
            self.assertIsNone(next_place(self.mill, self.letters, letter, places[-1]))
            self.assertIsNone(next_place(self.mill, self.letters, letter, (10 ** 59, -10 ** 59)))
            self.assertIsNone(next_place(self.mill, self.letters, letter, (4, 0)))

    def test_4_1_next_place_beyond_one_that_is_not_open(self):
        for letter, beyond, told in (
            (0, (-1, 0), (0, 0)), (0, (0, -1), (0, 0)), (0, (0, 1), (1, 0)), (0, (2, -5), (2, 0)), (0, (2, 5), (3, 0)),
            (0, (-10 ** 59, 10 ** 59), (0, 0)), (0, (1, 10 ** 59), (2, 0)), (0, (3, 1), None),
            (1, (1, -2), (1, -1)), (1, (1, 0), None), (1, (0, 99), (1, -1)), (1, (2, -99), None),
            (2, (0, -7), (0, -6)), (2, (0, -5), None),
            (3, (3, 10), (3, 11)), (3, (3, 12), None), (3, (-1, 99), (3, 11)),
        ):
            self.assertEqual(next_place(self.mill, self.letters, letter, beyond), told)

    def test_4_1_a_mill_of_1000_codes(self):
        mill = mill_of(MILLS[-1])
        letters = numbered(24)
        places = open_places(mill, letters, 23)
        self.assertEqual([code for code, key in places], list(range(1000)))
        self.assertEqual(next_place(mill, letters, 23, places[498]), places[499])

    def test_0_3_places_are_lists_of_tuples(self):
        self.assertIs(type(open_places(self.mill, self.letters, 0)), list)
        self.assertEqual([type(place) for place in open_places(self.mill, self.letters, 0)], [tuple] * 4)
        self.assertIs(type(next_place(self.mill, self.letters, 0, None)), tuple)

    def test_0_4_bad_letters(self):
        for letters in BAD_LETTERS:
            refuses(self, BadLetters, open_places, self.mill, letters, 0)
            for beyond in (None, (0, 0), (9, 9)):
                refuses(self, BadLetters, next_place, self.mill, letters, 0, beyond)
        refuses(self, BadLetters, open_places, Mill([]), [(1, 1)], 0)


class LeastPlans(Sample):
    def test_4_2_least_plans_worked_by_hand(self):
        for groups, plan, end in (
            ([("row", [2, 0, 1, 3])], [(1, 0), (0, 0), (0,), ()], [2, 0, 1, 3]),
            ([("any", [2]), ("any", [1]), ("any", [0, 3])], [(0, 0), (0, 0), (0,), ()], [2, 1, 0, 3]),
            ([("any", [2, 1]), ("row", [0, 3])], [(0, 0), (0, 0), (0,), ()], [2, 1, 0, 3]),
            ([("any", [0, 1, 2, 3])], [(1, 0), (0, 0), (0,), ()], [2, 0, 1, 3]),
            ([("any", [1, 2]), ("any", [3, 0])], [(0, 0), (0, 0), (0,), ()], [2, 1, 0, 3]),
        ):
            wish = Wish(self.letters, groups)
            self.assertEqual(least_plan(self.mill, self.letters, wish), ("plan", plan))
            self.assertEqual(end_row(self.mill, self.letters, plan), end)

    def test_4_2_come_goes_by_the_passes(self):
        letters = [(1, 2), (1, 1), (1, 0), (1, 0)]
        wish = one_group(letters, "come")
        self.assertEqual(least_plan(mill_of("qq qq"), letters, wish), ("plan", [(), (0,), (0, 0), (0, 0)]))
        self.assertEqual(least_plan(mill_of("pp pp"), letters, wish), ("plan", [(), (1,), (1, 0), (1, 0)]))

    def test_4_2_without_letters_and_without_passes(self):
        for text in MILLS:
            self.assertEqual(least_plan(mill_of(text), [], Wish([], [])), ("plan", []))
        letters = [(9, 0), (1, 0), (5, 0)]
        for groups in ([("any", [2, 1, 0])], [("come", [2, 0, 1])], [("row", [0, 1]), ("any", [2])]):
            self.assertEqual(least_plan(Mill([]), letters, Wish(letters, groups)), ("plan", [(), (), ()]))
        for groups in ([("row", [1, 0, 2])], [("any", [0, 2]), ("any", [1])]):
            self.tells_a_chain(Mill([]), letters, Wish(letters, groups))

    def test_4_2_24_letters(self):
        letters = numbered(24)
        turned = Wish(letters, [("row", list(range(23, -1, -1)))])
        told = least_plan(mill_of("qqqqqq qqqq"), letters, turned)
        self.assertEqual(told, ("plan", [((23 - letter) % 6, (23 - letter) // 6) for letter in range(24)]))
        self.assertEqual(least_plan(mill_of("p"), letters, turned), ("plan", [(0,)] * 24))
        self.assertEqual(len(self.tells_a_chain(mill_of("qqqqq qqqq"), letters, turned)), 21)
        for text in MILLS:
            wish = Wish(letters, [("any", [k for k in range(24) if k % 5 == left]) for left in range(5)])
            told = least_plan(mill_of(text), letters, wish)
            if told[0] == "plan":
                self.assertTrue(does(mill_of(text), letters, wish, told[1]))
            else:
                self.tells_a_chain(mill_of(text), letters, wish)

    def tells_a_chain(self, mill, letters, wish):
        told = least_plan(mill, letters, wish)
        self.assertEqual((type(told), len(told), told[0], type(told[1])), (tuple, 2, "chain", list))
        self.assertTrue(bars_by_hand(mill, letters, wish, told[1]))
        self.assertTrue(bars(mill, letters, wish, told[1]))
        return told[1]

    def test_4_3_wishes_that_no_plan_brings_about(self):
        for groups in (
            [("row", [1, 0, 2, 3])], [("row", [3]), ("any", [0, 1, 2])], [("any", [0, 1]), ("any", [2, 3])],
            [("any", [0, 3]), ("come", [2, 1])], [("row", [0]), ("any", [1, 2, 3])],
        ):
            self.tells_a_chain(self.mill, self.letters, Wish(self.letters, groups))

    def test_4_3_letters_without_an_open_place(self):
        letters = [(1, 0), (9, 1), (1, 1), (1, 2)]
        self.assertEqual(self.tells_a_chain(self.mill, letters, one_group(letters)), [1])
        for groups in ([("row", [0, 2, 1, 3])], [("any", [2, 0]), ("any", [3, 1])], [("row", [1, 0, 2, 3])]):
            self.assertEqual(self.tells_a_chain(self.mill, letters, Wish(letters, groups))[-1], 1)

    def test_0_3_a_plan_is_a_list_of_tuples(self):
        told = least_plan(self.mill, self.letters, one_group(self.letters))
        self.assertEqual((type(told), type(told[1])), (tuple, list))
        self.assertEqual([type(word) for word in told[1]], [tuple] * 4)

    def test_0_4_bad_letters(self):
        for letters in BAD_LETTERS:
            refuses(self, BadLetters, least_plan, self.mill, letters, one_group(letters))
        refuses(self, BadLetters, least_plan, Mill([]), [(1, 1)], one_group([(1, 1)]))


class AllPlans(unittest.TestCase):
    """Over all plans of small mills and few letters, and all wishes of these."""

    def looks_at(self, mill, letters):
        count = len(letters)
        plans = [list(plan) for plan in product(*[fitting_words(mill, letter) for letter in letters])]
        rows = [end_row(mill, letters, plan) for plan in plans]
        places = [[place_of(mill, letters, plan, letter) for letter in range(count)] for plan in plans]
        for levels in levels_in(count):
            wish = Wish(letters, [("any", list(level)) for level in levels])
            doing = [number for number, row in enumerate(rows) if keeps_by_hand(wish, row)]
            told = least_plan(mill, letters, wish)
            if doing:
                self.assertEqual(told[0], "plan")
                least = plans.index(told[1])
                self.assertIn(least, doing)
                for number in doing:
                    self.assertTrue(all(at >= low for at, low in zip(places[number], places[least])))
            else:
                self.assertEqual(told[0], "chain")
                self.assertTrue(bars_by_hand(mill, letters, wish, told[1]))
            self.looks_at_chains(mill, letters, wish, doing)

    def looks_at_chains(self, mill, letters, wish, doing):
        for many in range(1, len(letters) + 1):
            for chain in permutations(range(len(letters)), many):
                told = bars(mill, letters, wish, list(chain))
                self.assertIs(told, bars_by_hand(mill, letters, wish, list(chain)))
                self.assertFalse(told and doing)

    def test_4_2_4_3_of_up_to_two_letters(self):
        for text in ("", "q", "p", "qq", "pp", "qp", "pq", "q p", "p p", "qp pq", "pp qq", "pq pp"):
            mill = mill_of(text)
            lates = range(mill.many() + 1)
            for count in range(3):
                for chosen in product(lates, repeat=count):
                    self.looks_at(mill, [(1, late) for late in chosen])

    def test_4_2_4_3_of_three_letters(self):
        for text in ("", "p", "qp", "pq", "qp pq", "pp qp"):
            mill = mill_of(text)
            for chosen in product(range(mill.many() + 1), repeat=3):
                self.looks_at(mill, [(1, late) for late in chosen])

    def test_4_2_4_3_of_letters_and_pockets_of_unlike_sizes(self):
        mill = Mill([[("queue", 2), ("pile", 3)], [("pile", 3), ("queue", 1)]])
        for count in range(3):
            for letters in product(product((1, 2, 3, 4), (0, 1, 2)), repeat=count):
                self.looks_at(mill, list(letters))
        for sizes in product((1, 2, 3), repeat=3):
            self.looks_at(mill, [(size, number % 2) for number, size in enumerate(sizes)])

    def test_4_2_4_3_of_four_letters(self):
        self.looks_at(mill_of("qp"), numbered(4))
        self.looks_at(Mill([[("pile", 1), ("queue", 2), ("pile", 2)]]), [(1, 0), (2, 0), (1, 1), (1, 0)])


class OwnLists(OwnListsTests, Sample):
    def setUp(self):
        Sample.setUp(self)
        self.doing = Wish(self.letters, [("row", [2, 0, 1, 3])])
        self.barred = Wish(self.letters, [("row", [1, 0, 2, 3])])

    def handed(self):
        return [self.letters]

    def told(self):
        return (open_places(self.mill, self.letters, 0), next_place(self.mill, self.letters, 0, (1, 0)),
                least_plan(self.mill, self.letters, self.doing), least_plan(self.mill, self.letters, self.barred),
                least_plan(Mill([]), [], Wish([], [])))

    def test_0_2_the_mill_and_the_wishes_stay_as_they_were(self):
        passes = self.mill.passes
        wishes = copy.deepcopy((self.doing.groups, self.doing.levels(), self.barred.groups, self.barred.levels()))
        self.told()
        refuses(self, BadLetters, least_plan, Mill([]), self.letters, self.doing)
        self.assertEqual(self.mill.passes, passes)
        self.assertEqual((self.doing.groups, self.doing.levels(), self.barred.groups, self.barred.levels()), wishes)

    def test_0_2_no_list_of_a_wish_is_told(self):
        all_lists_are_own(self, self.told(), self.doing.level_letters, self.doing.groups, self.barred.level_letters,
                          self.barred.groups)


def fitting_words(mill, letter):
    return [word for word in words_of(mill, letter[1]) if fits(mill, letter[1], word, letter[0])]


def keeps_by_hand(wish, row):
    return not any(wish.behind(one, other) for k, one in enumerate(row) for other in row[k + 1:])


def bars_by_hand(mill, letters, wish, chain):
    """As 4.3 tells it, over the places of all words that fit."""
    beyond = (-1, 0)
    for at, letter in enumerate(chain):
        if at > 0 and not wish.behind(letter, chain[at - 1]):
            return False
        late = letters[letter][1]
        key = letter + len(letters) * late
        places = [(word_code(mill, late, word), face(mill, late, word) * key)
                  for word in fitting_words(mill, letters[letter])]
        left = [place for place in places if place > beyond]
        if not left:
            return at == len(chain) - 1
        beyond = min(left)
    return False


if __name__ == "__main__":
    unittest.main()
