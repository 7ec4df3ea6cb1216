import copy
import unittest
from itertools import product

from helper import (
    OwnListsTests, all_plans, levels_in, mill_of, numbered, piles, queues, refuses, small_cases, wish_of)
from pocketmill.chains import bars, does
from pocketmill.errors import BadCount, BadLetters
from pocketmill.fewest import codes_needed, fewest, fewest_holds, first_passes
from pocketmill.least import least_plan
from pocketmill.mills import Mill
from pocketmill.wishes import Wish


def falling(many):
    return Wish(numbered(many), [("row", list(range(many - 1, -1, -1)))])


def rising(many):
    return Wish(numbered(many), [("row", list(range(many)))])


class FirstPasses(unittest.TestCase):
    def setUp(self):
        self.mill = Mill([queues(2), [("pile", 3), ("queue", 0)], piles(3)])

    def test_5_1_the_first_passes_make_a_mill(self):
        for count in range(4):
            told = first_passes(self.mill, count)
            self.assertIs(type(told), Mill)
            self.assertEqual(told.passes, self.mill.passes[:count])
            self.assertEqual((told.many(), told.codes()), (count, (1, 2, 4, 12)[count]))

    def test_5_1_none_and_all(self):
        self.assertEqual(first_passes(self.mill, 0).passes, ())
        self.assertEqual(first_passes(self.mill, 3).passes, self.mill.passes)
        self.assertEqual(first_passes(Mill([]), 0).passes, ())
        self.assertEqual(first_passes(mill_of("q p q p q p"), 6).many(), 6)

    def test_5_1_counts_that_are_none(self):
        for count in (-1, 4, -3, 7, 10 ** 59, -10 ** 59, True, False):
            refuses(self, BadCount, first_passes, self.mill, count)
        for count in (-1, 1):
            refuses(self, BadCount, first_passes, Mill([]), count)


class Fewest(unittest.TestCase):
    def test_5_2_each_count_of_passes_is_needed_at_some_time(self):
        mill = mill_of("qq qq qq")
        for many, count in ((1, 0), (2, 1), (3, 2), (4, 2), (5, 3), (8, 3), (9, None), (24, None)):
            told = fewest(mill, numbered(many), falling(many))
            self.assertEqual(told[0], count)
            self.assertEqual(len(told[2]), 4 if count is None else count)

    def test_5_2_none_needed(self):
        for text in ("", "q", "pp qp", "p p p p p p"):
            self.assertEqual(fewest(mill_of(text), numbered(3), rising(3)), (0, [(), (), ()], []))
            wish = Wish(numbered(2), [("any", [1, 0])])
            self.assertEqual(fewest(mill_of(text), numbered(2), wish), (0, [(), ()], []))

    def test_5_2_all_needed(self):
        self.assertEqual(fewest(mill_of("q p"), numbered(2), falling(2)), (2, [(0, 0), (0, 0)], [[1, 0], [1, 0]]))
        self.assertEqual(fewest(mill_of("p"), numbered(2), falling(2)), (1, [(0,), (0,)], [[1, 0]]))

    def test_5_2_none_will_do(self):
        self.assertEqual(fewest(mill_of("q q"), numbered(2), falling(2)), (None, None, [[1, 0]] * 3))
        self.assertEqual(fewest(Mill([]), numbered(2), falling(2)), (None, None, [[1, 0]]))

    def test_5_2_a_count_does_though_a_greater_one_does_not(self):
        # A second pile turns the letters back; and nothing goes through a pass that is shut.
        self.assertEqual(fewest(mill_of("p p"), numbered(2), falling(2)), (1, [(0,), (0,)], [[1, 0]]))
        self.assertEqual(least_plan(mill_of("p p"), numbered(2), falling(2))[0], "chain")
        shut = Mill([piles(1), queues(2, 0)])
        self.assertEqual(fewest(shut, numbered(2), falling(2)), (1, [(0,), (0,)], [[1, 0]]))
        self.assertEqual(fewest(Mill([queues(6, 0)]), numbered(2), rising(2)), (0, [(), ()], []))

    def test_5_2_letters_that_are_too_big_for_a_pass(self):
        letters = [(5, 0), (1, 0)]
        wish = Wish(letters, [("row", [1, 0])])
        narrow = Mill([[("pile", 4)], queues(2)])
        self.assertEqual(fewest(narrow, letters, wish)[:2], (None, None))
        for second, third in product(([0], [1, 0]), repeat=2):
            self.assertIs(fewest_holds(narrow, letters, wish, (None, None, [[1, 0], second, third])), True)

    def test_5_1_letters_that_join_later_bound_the_counts(self):
        mill = mill_of("qq qq qq")
        letters = [(1, 0), (1, 2)]
        self.assertEqual(fewest(mill, letters, Wish(letters, [("row", [0, 1])])), (2, [(0, 0), ()], []))
        told = fewest(mill, letters, Wish(letters, [("row", [1, 0])]))
        self.assertEqual(told, (3, [(0, 0, 1), (0,)], [[1, 0]]))
        letters = [(1, 3), (1, 0)]
        self.assertEqual(fewest(mill, letters, Wish(letters, [("row", [1, 0])])), (3, [(), (0, 0, 0)], []))
        self.assertEqual(fewest(mill, letters, Wish(letters, [("row", [0, 1])])), (None, None, [[0, 1]]))

    def test_5_1_no_letters(self):
        for text in ("", "q", "pp qq", "q p q p q p"):
            self.assertEqual(fewest(mill_of(text), [], Wish([], [])), (0, [], []))
        self.assertEqual(fewest(Mill([queues(1, 0)]), [], Wish([], [])), (0, [], []))

    def test_5_2_the_least_of_all_plans(self):
        for mill, letters, wish in small_cases():
            counts = range(max([late for size, late in letters], default=0), mill.many() + 1)
            mills = [Mill(mill.passes[:count]) for count in counts]
            doing = [first for first in mills
                     if any(does(first, letters, wish, plan) for plan in all_plans(first, letters))]
            count, plan, chains = fewest(mill, letters, wish)
            if doing:
                self.assertEqual(count, doing[0].many())
                self.assertEqual(("plan", plan), least_plan(doing[0], letters, wish))
            else:
                self.assertEqual((count, plan), (None, None))
            barred = mills[:mills.index(doing[0])] if doing else mills
            self.assertEqual(len(chains), len(barred))
            for first, chain in zip(barred, chains):
                self.assertIs(bars(first, letters, wish, chain), True)

    def test_0_3_kinds(self):
        for many in (2, 9):
            told = fewest(mill_of("qq qq qq"), numbered(many), falling(many))
            self.assertIs(type(told), tuple)
            self.assertEqual({type(part) for part in told[2]}, {list})
            self.assertIs(type(told[2]), list)
        told = fewest(mill_of("qq"), numbered(2), falling(2))
        self.assertEqual([type(part) for part in told + tuple(told[1])], [int, list, list, tuple, tuple])


class FewestHolds(unittest.TestCase):
    def setUp(self):
        # Two passes are the fewest: three letters in falling order need three codes of queues.
        self.mill = mill_of("qq qq qq")
        self.letters = numbered(3)
        self.wish = falling(3)
        self.plan = [(0, 1), (1, 0), (0, 0)]
        self.chains = [[2, 1], [2, 1, 0]]

    def told(self, *triple):
        return fewest_holds(self.mill, self.letters, self.wish, triple)

    def test_5_2_what_fewest_tells_holds(self):
        self.assertEqual(fewest(self.mill, self.letters, self.wish), (2, self.plan, self.chains))
        for mill, letters, wish in small_cases():
            self.assertIs(fewest_holds(mill, letters, wish, fewest(mill, letters, wish)), True)

    def test_5_2_other_plans_hold(self):
        for plan in ([(1, 1), (1, 0), (0, 0)], [(1, 1), (0, 1), (0, 0)], [(1, 1), (0, 1), (1, 0)]):
            self.assertIs(self.told(2, plan, self.chains), True)

    def test_5_2_other_chains_hold(self):
        for first in ([2, 1], [1, 0], [2, 0]):
            self.assertIs(self.told(2, self.plan, [first, [2, 1, 0]]), True)

    def test_5_2_another_count_does_not_hold(self):
        plans = {0: [()] * 3, 1: [(1,), (1,), (0,)], 3: [(1, 1, 0), (1, 0, 0), (0, 0, 0)]}
        self.assertIs(does(self.mill, self.letters, self.wish, plans[3]), True)
        for count, plan in plans.items():
            for chains in (self.chains[:count], self.chains, [[2, 1, 0]] * count):
                self.assertIs(self.told(count, plan, chains), False)
            self.assertIs(self.told(count, self.plan, self.chains), False)

    def test_5_2_a_greater_count_that_does_too_does_not_hold(self):
        # With three passes there is a plan, but no chain bars two of them.
        plan = [(0, 1, 0), (1, 0, 0), (0, 0, 0)]
        for chain in ([2, 1, 0], [2, 1], [1], []):
            self.assertIs(self.told(3, plan, self.chains + [chain]), False)
        self.assertIs(self.told(3, plan, self.chains), False)

    def test_5_1_counts_that_can_not_be_asked_do_not_hold(self):
        for count in (-1, 4, 7, -10 ** 59, 10 ** 59):
            for plan in (self.plan, [()] * 3, [(0, 1, 0, 0), (1, 0, 0, 0), (0, 0, 0, 0)], []):
                for chains in ([], self.chains, [[2, 1]] * 4):
                    self.assertIs(self.told(count, plan, chains), False)

    def test_5_1_counts_below_a_late_do_not_hold(self):
        letters = [(1, 0), (1, 2)]
        wish = Wish(letters, [("row", [0, 1])])
        self.assertIs(fewest_holds(self.mill, letters, wish, (2, [(1, 1), ()], [])), True)
        for count in range(2):
            for plan in ([(0,) * count, ()], [(0, 0), ()]):
                for chains in ([], [[0]] * count, [[0, 1]] * count):
                    self.assertIs(fewest_holds(self.mill, letters, wish, (count, plan, chains)), False)
        self.assertIs(fewest_holds(self.mill, letters, wish, (2, [(1, 1), ()], [[0, 1], [0, 1]])), False)

    def test_5_2_a_plan_that_is_none_of_those_passes_does_not_hold(self):
        for plan in (
            [], self.plan[:2], self.plan + [(1, 1)], [(0, 1, 0), (1, 0, 0), (0, 0, 0)], [(0,), (1,), (0,)],
            [(0, 2), (1, 0), (0, 0)], [(0, 1), (1, 0), (0, -1)], [()] * 3,
        ):
            self.assertIs(self.told(2, plan, self.chains), False)

    def test_5_2_a_plan_that_does_not_fit_does_not_hold(self):
        mill = Mill([[("queue", 9), ("queue", 4)]])
        letters = [(4, 0), (9, 0)]
        wish = Wish(letters, [("row", [1, 0])])
        self.assertIs(fewest_holds(mill, letters, wish, (1, [(1,), (0,)], [[1, 0]])), True)
        bigger = [(5, 0), (9, 0)]
        self.assertIs(fewest_holds(mill, bigger, wish, (1, [(1,), (0,)], [[1, 0]])), False)

    def test_5_2_a_plan_that_does_not_bring_the_wish_about_does_not_hold(self):
        for plan in ([(0, 0)] * 3, [(0, 0), (1, 0), (0, 1)], [(0, 1), (0, 0), (0, 0)], [(1, 0), (0, 1), (0, 0)]):
            self.assertIs(self.told(2, plan, self.chains), False)

    def test_5_2_chains_too_few_or_too_many_do_not_hold(self):
        for chains in ([], self.chains[:1], self.chains[1:], self.chains + [[2, 1, 0]], self.chains + [[]]):
            self.assertIs(self.told(2, self.plan, chains), False)

    def test_5_2_a_chain_that_does_not_bar_does_not_hold(self):
        for first in ([], [2], [1, 2], [2, 1, 0], [1, 1], [0, 2]):
            self.assertIs(self.told(2, self.plan, [first, self.chains[1]]), False)
        for second in ([], [0], [2, 1], [1, 0], [0, 1, 2], [2, 2, 1]):
            self.assertIs(self.told(2, self.plan, [self.chains[0], second]), False)

    def test_5_2_chains_stand_from_the_least_count_on(self):
        self.assertIs(self.told(2, self.plan, [self.chains[1], self.chains[0]]), False)

    def test_5_2_none_holds_only_where_no_count_will_do(self):
        for more in ([], [[2, 1, 0]], [[2, 1, 0]] * 2, [[2, 1], [2]], [[], []]):
            self.assertIs(self.told(None, None, self.chains + more), False)
        self.assertIs(self.told(None, None, []), False)
        letters, wish = numbered(2), falling(2)
        for chains, holds in (
            ([[1, 0], [1, 0]], True), ([[1, 0]], False), ([[1, 0]] * 3, False), ([], False), ([[1, 0], [1]], False),
            ([[1], [1, 0]], False), ([[], [1, 0]], False), ([[0, 1], [1, 0]], False),
        ):
            self.assertIs(fewest_holds(mill_of("q"), letters, wish, (None, None, chains)), holds)

    def test_5_2_a_count_does_not_hold_where_none_will_do(self):
        for count in range(2):
            for chains in ([[1, 0]] * count, [[1, 0]] * 2):
                told = (count, [(0,) * count] * 2, chains)
                self.assertIs(fewest_holds(mill_of("q"), numbered(2), falling(2), told), False)

    def test_5_2_a_count_and_a_plan_belong_together(self):
        self.assertIs(self.told(None, self.plan, self.chains), False)
        self.assertIs(self.told(2, None, self.chains), False)
        chains = [[1, 0], [1, 0]]
        self.assertIs(fewest_holds(mill_of("q"), numbered(2), falling(2), (None, [(0,), (0,)], chains)), False)

    def test_5_1_no_letters(self):
        mill, wish = mill_of("qq q"), Wish([], [])
        self.assertIs(fewest_holds(mill, [], wish, (0, [], [])), True)
        for told in ((1, [], []), (1, [], [[]]), (2, [], [[], []]), (0, [()], []), (0, [], [[]]), (None, None, []),
                     (None, None, [[], [], []]), (-1, [], []), (3, [], [])):
            self.assertIs(fewest_holds(mill, [], wish, told), False)

    def test_5_2_over_all_plans_and_chains(self):
        # A triple holds just where its count is the fewest, its plan does, and each chain bars.
        mill, letters = mill_of("q p"), numbered(2)
        lists = [[], [0], [1], [0, 1], [1, 0], [1, 1]]
        for levels in levels_in(2):
            wish = wish_of(letters, levels)
            count = fewest(mill, letters, wish)[0]
            for asked in range(3):
                first = Mill(mill.passes[:asked])
                for plan in all_plans(first, letters):
                    for chains in product(lists, repeat=asked):
                        wanted = asked == count and does(first, letters, wish, plan) and all(
                            bars(Mill(mill.passes[:k]), letters, wish, chain) for k, chain in enumerate(chains))
                        self.assertIs(fewest_holds(mill, letters, wish, (asked, plan, list(chains))), wanted)


class CodesNeeded(unittest.TestCase):
    def needed(self, levels):
        letters = numbered(sum(len(level) for level in levels))
        return codes_needed(letters, wish_of(letters, levels))

    def test_5_3_no_letters(self):
        self.assertEqual(codes_needed([], Wish([], [])), 0)

    def test_5_3_one_level(self):
        for many in range(1, 25):
            self.assertEqual(self.needed([list(range(many))]), 1)

    def test_5_3_falling_and_rising(self):
        for many in range(1, 25):
            self.assertEqual(codes_needed(numbered(many), falling(many)), many)
            self.assertEqual(codes_needed(numbered(many), rising(many)), 1)
            self.assertEqual(codes_needed(numbered(many), Wish(numbered(many), [("come", list(range(many)))])), 1)

    def test_5_3_levels_in_between(self):
        for levels, count in (
            ([[0, 1], [2, 3]], 1), ([[2, 3], [0, 1]], 2), ([[0, 2], [1, 3]], 2), ([[1], [0, 2]], 2),
            ([[1], [2], [0]], 2), ([[1], [0, 2], [3]], 2), ([[3], [1, 4], [2, 0]], 3), ([[2], [0, 3], [1]], 2),
            ([[2], [1, 3], [0]], 3), ([[0, 4], [1, 2], [3]], 2), ([[3], [0, 4], [1, 2]], 2),
        ):
            self.assertEqual(self.needed(levels), count, levels)

    def test_5_3_reckoned_letter_by_letter(self):
        for many in range(1, 6):
            for levels in levels_in(many):
                given = {}
                for level in levels:
                    most = max(given.values(), default=0)
                    last = max((letter for letter in given if given[letter] == most), default=-1)
                    given.update({letter: most if letter > last else most + 1 for letter in level})
                self.assertEqual(self.needed(levels), max(given.values()) + 1, levels)

    def test_5_3_queues_do_just_where_they_have_no_fewer_codes(self):
        for levels in levels_in(4):
            letters = numbered(4)
            wish = wish_of(letters, levels)
            for text in ("", "q", "qq", "q qq", "qqq", "qq qq", "qqqqq"):
                mill = mill_of(text)
                told = least_plan(mill, letters, wish)[0] == "plan"
                self.assertIs(told, mill.codes() >= codes_needed(letters, wish))

    def test_5_3_sizes_say_nothing(self):
        letters = [(9, 0), (1, 0), (5, 0)]
        self.assertEqual(codes_needed(letters, Wish(letters, [("row", [2, 0, 1])])), 2)

    def test_5_3_letters_that_are_none_for_a_mill_without_passes(self):
        for letters in ([(1, 1)], [(1, 0), (1, 1)], [(1, -1)], [(0, 0)], [(10, 0)], [(1, False)], [(True, 0)],
                        numbered(25)):
            wish = Wish(letters, [("any", list(range(len(letters))))])
            refuses(self, BadLetters, codes_needed, letters, wish)


class Refusals(unittest.TestCase):
    def test_0_4_bad_letters_go_first(self):
        mill = mill_of("qq q")
        for letters in ([(0, 0)], [(10, 0)], [(1, -1)], [(1, 3)], [(1, 0), (1, 3)], [(1, True)], numbered(25)):
            wish = Wish(letters, [("any", list(range(len(letters))))])
            refuses(self, BadLetters, fewest, mill, letters, wish)
            for told in ((0, [()] * len(letters), []), (None, None, []), (-1, [], []), (3, [(9,)], [[0]] * 3)):
                refuses(self, BadLetters, fewest_holds, mill, letters, wish, told)


class OwnLists(OwnListsTests, unittest.TestCase):
    def setUp(self):
        self.mill = mill_of("qq qq qq")
        self.letters = numbered(3)
        self.wish = falling(3)
        self.triple = (2, [(0, 1), (1, 0), (0, 0)], [[2, 1], [2, 1, 0]])

    def handed(self):
        return [self.letters, self.triple]

    def told(self):
        return [fewest(self.mill, self.letters, self.wish), fewest(mill_of("q q"), self.letters, self.wish),
                fewest(self.mill, [], Wish([], [])), codes_needed(self.letters, self.wish),
                fewest_holds(self.mill, self.letters, self.wish, self.triple)]

    def test_0_2_the_mill_and_the_wish_stay_as_they_were(self):
        before = copy.deepcopy((self.mill.passes, self.wish.groups, self.wish.levels()))
        self.told()
        first_passes(self.mill, 1)
        refuses(self, BadCount, first_passes, self.mill, 4)
        refuses(self, BadLetters, fewest, self.mill, self.letters + [(1, 4)], self.wish)
        self.assertEqual((self.mill.passes, self.wish.groups, self.wish.levels()), before)


if __name__ == "__main__":
    unittest.main()
