import copy
import unittest
from itertools import product

from helper import MILLS, OwnListsTests, all_plans, mill_of, numbered, refuses, small_cases, words_of
from pocketmill.chains import bars, does
from pocketmill.errors import BadLetters, BadPlan, BadPrices, NotOneOrder
from pocketmill.mills import Mill, face, fits, word_code
from pocketmill.prices import cheapest, cost_of, least_table, table_shows
from pocketmill.trays import end_row, place_of
from pocketmill.wishes import Wish

MOST = 10 ** 30


def prices_for(mill, step):
    """Prices that look mixed, the same ones each time; a step of 0 has nought for all pockets."""
    return [[step * (3 * number + 5 * at + 2) % 11 for at in range(len(pockets))]
            for number, pockets in enumerate(mill.passes)]


def flat_prices(mill, price):
    return [[price] * len(pockets) for pockets in mill.passes]


def row_wish(letters, order):
    return Wish(letters, [("row", order)] if order else [])


def one_order_cases():
    for mill, letters, wish in small_cases():
        if wish.one_order():
            for step in (0, 1, 4):
                yield mill, letters, wish, prices_for(mill, step)


def sum_of(prices, late, word):
    return sum(prices[late + at][pocket] for at, pocket in enumerate(word))


def fitting_places(mill, letters, letter, prices):
    """The triples of place, word's cost and word of a letter, by rising places, each word taken by itself."""
    size, late = letters[letter]
    return sorted(
        ((word_code(mill, late, word), face(mill, late, word) * (letter + len(letters) * late)),
         sum_of(prices, late, word), word)
        for word in words_of(mill, late) if fits(mill, late, word, size))


def table_by_hand(mill, letters, order, prices):
    table = []
    for letter in order:
        row = []
        for place, cost, word in fitting_places(mill, letters, letter, prices):
            lesser = [least for other, least in table[-1] if other < place] if table else [0]
            if lesser:
                row.append((place, cost + min(lesser)))
        table.append(row)
    return table


class Sample(unittest.TestCase):
    def setUp(self):
        # The words (1, 0), (0, 0), (0, 1) and (1, 1) have the codes 0 to 3 and cost 3, 7, 15 and 11.
        self.mill = Mill([[("queue", 9), ("pile", 7)], [("pile", 8), ("queue", 5)]])
        self.letters = [(1, 0), (1, 0), (1, 0)]
        self.prices = [[5, 1], [2, 10]]
        self.wish = Wish(self.letters, [("row", [2, 0, 1])])
        self.table = [
            [((0, 2), 3), ((1, -2), 7), ((2, 2), 15), ((3, -2), 11)],
            [((1, 0), 10), ((2, 0), 18), ((3, 0), 14)],
            [((2, 1), 25), ((3, -1), 21)],
        ]
        self.plan = [(0, 0), (1, 1), (1, 0)]

    def shows(self, cost, table):
        return table_shows(self.mill, self.letters, self.wish, self.prices, cost, table)


class CostOf(Sample):
    def cost(self, plan, letters=None):
        return cost_of(self.mill, letters or self.letters, plan, self.prices)

    def test_8_1_words_cost_what_their_pockets_do(self):
        for word, cost in (((1, 0), 3), ((0, 0), 7), ((0, 1), 15), ((1, 1), 11)):
            self.assertEqual(self.cost([word], [(1, 0)]), cost)
            self.assertEqual(self.cost([word] * 3), 3 * cost)
        self.assertEqual(self.cost(self.plan), 21)

    def test_8_1_words_begin_with_the_pass_that_the_letter_joins_at(self):
        for word, cost in (((0,), 2), ((1,), 10)):
            self.assertEqual(self.cost([word], [(1, 1)]), cost)
        self.assertEqual(self.cost([()], [(9, 2)]), 0)
        self.assertEqual(self.cost([(1,), (0, 0), ()], [(1, 1), (8, 0), (1, 2)]), 17)

    def test_8_1_no_letters_and_no_passes(self):
        self.assertEqual(cost_of(self.mill, [], [], self.prices), 0)
        self.assertEqual(cost_of(Mill([]), [(9, 0)] * 24, [()] * 24, []), 0)

    def test_8_1_over_all_plans(self):
        for mill, letters, wish, prices in one_order_cases():
            for plan in all_plans(mill, letters):
                self.assertEqual(cost_of(mill, letters, plan, prices),
                                 sum(sum_of(prices, late, word) for (size, late), word in zip(letters, plan)))

    def test_8_1_nought_and_the_greatest_price(self):
        self.assertEqual(cost_of(self.mill, self.letters, self.plan, flat_prices(self.mill, 0)), 0)
        self.assertEqual(cost_of(self.mill, self.letters, self.plan, flat_prices(self.mill, MOST)), 6 * MOST)
        mill = mill_of("q q q q q q")
        self.assertEqual(cost_of(mill, numbered(24), [(0,) * 6] * 24, flat_prices(mill, MOST)), 144 * MOST)


class BadPriceLists(Sample):
    def refused(self, prices, mill=None, letters=None, plan=None, order=(2, 0, 1)):
        mill = mill or self.mill
        letters = self.letters if letters is None else letters
        wish = row_wish(letters, list(order))
        refuses(self, BadPrices, cost_of, mill, letters, self.plan if plan is None else plan, prices)
        refuses(self, BadPrices, least_table, mill, letters, wish, prices)
        refuses(self, BadPrices, cheapest, mill, letters, wish, prices)
        refuses(self, BadPrices, table_shows, mill, letters, wish, prices, 21, self.table)

    def test_8_1_a_number_that_is_no_price(self):
        for wrong in (MOST + 1, -1, 10 ** 59, -10 ** 59, True, False, "1", None, [1]):
            for at, pocket in product(range(2), repeat=2):
                prices = copy.deepcopy(self.prices)
                prices[at][pocket] = wrong
                self.refused(prices)

    def test_8_1_a_list_too_few_or_too_many(self):
        for prices in ([], [[5, 1]], [[5, 1], [2, 10], []], [[5, 1], [2, 10], [0, 0]], [[], [5, 1], [2, 10]]):
            self.refused(prices)

    def test_8_1_a_number_too_few_or_too_many(self):
        for prices in ([[5], [2, 10]], [[5, 1], [2]], [[5, 1], []], [[], []], [[5, 1, 0], [2, 10]],
                       [[5, 1], [2, 10, 0]], [[5, 1, 0], [2]], [[5], [1, 2, 10]]):
            self.refused(prices)

    def test_8_1_things_that_are_no_lists(self):
        for prices in (None, 5, "ab", [5, 1], [[5, 1], 2], [[5, 1], None], ["ab", "cd"]):
            self.refused(prices)

    def test_8_1_no_letters_and_no_passes(self):
        self.refused([[5, 1]], letters=[], plan=[], order=[])
        self.refused([[5, 1], [2, -1]], letters=[], plan=[], order=[])
        for prices in ([[]], [[1]], [[], []]):
            self.refused(prices, Mill([]), [], [], [])
            self.refused(prices, Mill([]), [(1, 0)], [()], [0])

    def test_8_1_pockets_that_no_letter_is_laid_into(self):
        self.refused([[5, 1], [2, MOST + 1]], letters=[(1, 2)], plan=[()], order=[0])

    def test_8_1_edges_that_are_taken(self):
        for price in (0, 1, MOST - 1, MOST):
            prices = flat_prices(self.mill, price)
            self.assertEqual(cost_of(self.mill, self.letters, self.plan, prices), 6 * price)
            self.assertEqual(cheapest(self.mill, self.letters, self.wish, prices)[1], 6 * price)


class LeastTable(Sample):
    def test_8_2_worked_by_hand(self):
        self.assertEqual(least_table(self.mill, self.letters, self.wish, self.prices), self.table)

    def test_8_2_a_row_behind_the_first_leaves_places_out(self):
        # Letter 1 has one open place, (1, -1): letter 0 goes beyond it from (1, 0) on.
        letters = [(1, 0), (8, 0)]
        wish = Wish(letters, [("row", [1, 0])])
        self.assertEqual(least_table(self.mill, letters, wish, self.prices),
                         [[((1, -1), 7)], [((1, 0), 14), ((2, 0), 22), ((3, 0), 18)]])
        # The other way round none is left out but those that letter 0 has no lesser place for.
        wish = Wish(letters, [("row", [0, 1])])
        self.assertEqual(least_table(self.mill, letters, wish, self.prices),
                         [[((0, 0), 3), ((1, 0), 7), ((2, 0), 15), ((3, 0), 11)], [((1, -1), 10)]])

    def test_8_2_the_least_number_at_lesser_places_is_not_always_the_last_one(self):
        mill = mill_of("qqqq")
        letters = numbered(2)
        wish = row_wish(letters, [1, 0])
        self.assertEqual(least_table(mill, letters, wish, [[4, 2, 7, 1]]),
                         [[((0, 1), 4), ((1, 1), 2), ((2, 1), 7), ((3, 1), 1)],
                          [((1, 0), 6), ((2, 0), 9), ((3, 0), 3)]])

    def test_8_2_an_empty_row(self):
        letters = [(1, 0), (8, 0), (6, 1)]
        # Letter 2's one place (0, -5) is not beyond letter 1's (1, -1); behind an empty row all rows are empty.
        wish = row_wish(letters, [1, 2, 0])
        self.assertEqual(least_table(self.mill, letters, wish, self.prices), [[((1, -1), 7)], [], []])
        wish = row_wish(letters, [0, 1, 2])
        table = least_table(self.mill, letters, wish, self.prices)
        self.assertEqual([len(row) for row in table], [4, 1, 0])

    def test_8_2_letters_without_an_open_place(self):
        letters = [(1, 0), (9, 0)]
        self.assertEqual(least_table(self.mill, letters, row_wish(letters, [1, 0]), self.prices), [[], []])
        table = least_table(self.mill, letters, row_wish(letters, [0, 1]), self.prices)
        self.assertEqual([len(row) for row in table], [4, 0])
        self.assertEqual(least_table(self.mill, [(9, 0)], row_wish([(9, 0)], [0]), self.prices), [[]])

    def test_8_2_no_letters_and_no_passes(self):
        self.assertEqual(least_table(self.mill, [], Wish([], []), self.prices), [])
        self.assertEqual(least_table(Mill([]), [], Wish([], []), []), [])
        letters = numbered(3)
        self.assertEqual(least_table(Mill([]), letters, row_wish(letters, [0, 1, 2]), []),
                         [[((0, 0), 0)], [((0, 1), 0)], [((0, 2), 0)]])
        self.assertEqual(least_table(Mill([]), letters, row_wish(letters, [0, 2, 1]), []),
                         [[((0, 0), 0)], [((0, 2), 0)], []])

    def test_8_2_the_order_of_the_wish(self):
        letters = [(1, 1), (1, 0), (1, 0)]
        for groups, order in (
            ([("come", [0, 1, 2])], [1, 2, 0]), ([("row", [0, 2, 1])], [0, 2, 1]),
            ([("any", [1]), ("come", [0, 2])], [1, 2, 0]), ([("any", [2]), ("any", [0]), ("any", [1])], [2, 0, 1]),
        ):
            self.assertEqual(least_table(self.mill, letters, Wish(letters, groups), self.prices),
                             table_by_hand(self.mill, letters, order, self.prices))

    def test_8_2_over_small_mills(self):
        for mill, letters, wish, prices in one_order_cases():
            order = [level[0] for level in wish.levels()]
            self.assertEqual(least_table(mill, letters, wish, prices), table_by_hand(mill, letters, order, prices))

    def test_8_2_large_mills(self):
        for text in MILLS:
            mill = mill_of(text)
            letters = [(1, letter % (mill.many() + 1)) for letter in range(5)]
            for order in ([0, 1, 2, 3, 4], [3, 1, 4, 0, 2]):
                prices = prices_for(mill, 3)
                self.assertEqual(least_table(mill, letters, row_wish(letters, order), prices),
                                 table_by_hand(mill, letters, order, prices))

    def test_8_2_numbers_are_the_least_costs_up_to_each_letter(self):
        for mill, letters, wish, prices in one_order_cases():
            order = [level[0] for level in wish.levels()]
            table = least_table(mill, letters, wish, prices)
            self.assertEqual(len(table), len(letters))
            for many in range(1, len(order) + 1):
                least = {}
                for taken in product(*[fitting_places(mill, letters, letter, prices) for letter in order[:many]]):
                    places = [place for place, cost, word in taken]
                    if places == sorted(places):
                        cost = sum(cost for place, cost, word in taken)
                        least[places[-1]] = min(cost, least.get(places[-1], cost))
                self.assertEqual(table[many - 1], sorted(least.items()))

    def test_8_2_the_greatest_prices(self):
        mill = mill_of("q q q q q q")
        letters = numbered(24)
        table = least_table(mill, letters, row_wish(letters, list(range(24))), flat_prices(mill, MOST))
        self.assertEqual(table, [[((0, letter), 6 * MOST * (letter + 1))] for letter in range(24)])

    def test_8_2_wishes_that_are_not_one_order(self):
        for groups in ([("any", [0, 1, 2])], [("any", [0, 1]), ("row", [2])], [("row", [0]), ("any", [2, 1])]):
            wish = Wish(self.letters, groups)
            refuses(self, NotOneOrder, least_table, self.mill, self.letters, wish, self.prices)
            refuses(self, NotOneOrder, cheapest, self.mill, self.letters, wish, self.prices)
            refuses(self, NotOneOrder, table_shows, self.mill, self.letters, wish, self.prices, 21, self.table)

    def test_0_3_kinds(self):
        table = least_table(self.mill, self.letters, self.wish, self.prices)
        self.assertEqual({type(part) for part in [table] + table}, {list})
        self.assertEqual({type(pair) for row in table for pair in row}, {tuple})
        self.assertEqual({(type(place), type(least)) for row in table for place, least in row}, {(tuple, int)})


class Cheapest(Sample):
    def test_8_3_worked_by_hand(self):
        self.assertEqual(cheapest(self.mill, self.letters, self.wish, self.prices),
                         ("plan", 21, self.plan, self.table))

    def test_8_3_no_letters(self):
        self.assertEqual(cheapest(self.mill, [], Wish([], []), self.prices), ("plan", 0, [], []))
        self.assertEqual(cheapest(Mill([]), [], Wish([], []), []), ("plan", 0, [], []))

    def test_8_3_no_passes(self):
        letters = numbered(2)
        self.assertEqual(cheapest(Mill([]), letters, row_wish(letters, [0, 1]), []),
                         ("plan", 0, [(), ()], [[((0, 0), 0)], [((0, 1), 0)]]))
        self.assertEqual(cheapest(Mill([]), letters, row_wish(letters, [1, 0]), []), ("chain", [1, 0]))

    def test_8_3_a_chain_where_the_last_row_is_empty(self):
        letters = [(1, 0), (8, 0), (6, 1)]
        for order in ([1, 2, 0], [0, 1, 2]):
            wish = row_wish(letters, order)
            told = cheapest(self.mill, letters, wish, self.prices)
            self.assertEqual((len(told), told[0], type(told[1])), (2, "chain", list))
            self.assertIs(bars(self.mill, letters, wish, told[1]), True)
        letters = [(1, 0), (9, 0)]
        for order in ([0, 1], [1, 0]):
            wish = row_wish(letters, order)
            told = cheapest(self.mill, letters, wish, self.prices)
            self.assertIs(bars(self.mill, letters, wish, told[1]), True)

    def test_8_3_no_plan_is_cheaper(self):
        for mill, letters, wish, prices in one_order_cases():
            costs = [cost_of(mill, letters, plan, prices)
                     for plan in all_plans(mill, letters) if does(mill, letters, wish, plan)]
            told = cheapest(mill, letters, wish, prices)
            if costs:
                kind, cost, plan, table = told
                self.assertEqual((kind, cost), ("plan", min(costs)))
                self.assertIs(does(mill, letters, wish, plan), True)
                self.assertEqual(cost_of(mill, letters, plan, prices), cost)
                self.assertEqual(table, least_table(mill, letters, wish, prices))
            else:
                self.assertEqual(told[0], "chain")
                self.assertIs(bars(mill, letters, wish, told[1]), True)

    def test_8_3_the_plan_walks_the_table(self):
        for mill, letters, wish, prices in one_order_cases():
            told = cheapest(mill, letters, wish, prices)
            if told[0] == "plan":
                sums = 0
                for (letter,), row in zip(wish.levels(), told[3]):
                    sums += sum_of(prices, letters[letter][1], told[2][letter])
                    self.assertIn((place_of(mill, letters, told[2], letter), sums), row)

    def test_8_3_a_cheapest_plan_need_not_be_the_least(self):
        mill = mill_of("qqq")
        letters = numbered(2)
        self.assertEqual(cheapest(mill, letters, row_wish(letters, [1, 0]), [[9, 1, 0]])[1:3], (1, [(2,), (1,)]))
        self.assertEqual(cheapest(mill, letters, row_wish(letters, [0, 1]), [[9, 1, 0]])[1:3], (0, [(2,), (2,)]))

    def test_8_3_24_letters_in_a_mill_of_1000_codes(self):
        mill = mill_of(MILLS[-1])
        letters = [(1, letter % 7) for letter in range(24)]
        wish = Wish(letters, [("come", list(range(24)))])
        kind, cost, plan, table = cheapest(mill, letters, wish, prices_for(mill, 7))
        self.assertEqual(kind, "plan")
        self.assertIs(wish.kept_by(end_row(mill, letters, plan)), True)
        self.assertEqual(cost_of(mill, letters, plan, prices_for(mill, 7)), cost)
        self.assertIs(table_shows(mill, letters, wish, prices_for(mill, 7), cost, table), True)

    def test_0_3_kinds(self):
        told = cheapest(self.mill, self.letters, self.wish, self.prices)
        self.assertEqual([type(part) for part in (told,) + told + tuple(told[2])],
                         [tuple, str, int, list, list, tuple, tuple, tuple])


class TableShows(Sample):
    def test_8_3_the_least_table_and_cost(self):
        self.assertIs(self.shows(21, self.table), True)
        for mill, letters, wish, prices in one_order_cases():
            told = cheapest(mill, letters, wish, prices)
            if told[0] == "plan":
                self.assertIs(table_shows(mill, letters, wish, prices, told[1], told[3]), True)

    def test_8_3_another_cost(self):
        for cost in (0, 1, 20, 22, 25, 3, -21, 10 ** 59):
            self.assertIs(self.shows(cost, self.table), False)

    def changed(self, at, row):
        table = copy.deepcopy(self.table)
        table[at] = row
        return table

    def test_8_3_a_pair_left_out(self):
        for at, row in enumerate(self.table):
            for pair in range(len(row)):
                self.assertIs(self.shows(21, self.changed(at, row[:pair] + row[pair + 1:])), False)
            self.assertIs(self.shows(21, self.changed(at, [])), False)

    def test_8_3_a_pair_put_in(self):
        for at, row in enumerate(self.table):
            for pair in range(len(row) + 1):
                for more in (((0, -9), 0), ((9, 9), 99), ((1, -1), 17), row[0]):
                    self.assertIs(self.shows(21, self.changed(at, row[:pair] + [more] + row[pair:])), False)

    def test_8_3_a_pair_changed(self):
        for at, row in enumerate(self.table):
            for pair, (place, least) in enumerate(row):
                for other in ((place, least + 1), (place, least - 1), (place, 0), ((place[0], place[1] + 1), least),
                              ((place[0] + 1, place[1]), least), ((place[0], -place[1] - 1), least)):
                    self.assertIs(self.shows(21, self.changed(at, row[:pair] + [other] + row[pair + 1:])), False)

    def test_8_3_pairs_in_another_order(self):
        for at, row in enumerate(self.table):
            self.assertIs(self.shows(21, self.changed(at, row[::-1])), False)

    def test_8_3_another_count_of_rows(self):
        for table in ([], self.table[:2], self.table[1:], self.table + [[]], self.table + self.table[-1:],
                      [[]] + self.table, self.table[::-1], [[], [], []]):
            self.assertIs(self.shows(21, table), False)

    def test_8_3_a_cost_and_a_table_changed_alike(self):
        self.assertIs(self.shows(20, self.changed(2, [((2, 1), 25), ((3, -1), 20)])), False)
        self.assertIs(self.shows(25, self.changed(2, [((2, 1), 25)])), False)

    def test_8_3_an_empty_last_row(self):
        letters = [(1, 0), (8, 0), (6, 1)]
        wish = row_wish(letters, [0, 1, 2])
        table = least_table(self.mill, letters, wish, self.prices)
        self.assertEqual(table[-1], [])
        for cost in (0, 1, 10, None):
            for told in (table, table[:2], []):
                self.assertIs(table_shows(self.mill, letters, wish, self.prices, cost, told), False)

    def test_8_3_no_letters(self):
        for cost, table, shows in ((0, [], True), (1, [], False), (-1, [], False), (0, [[]], False),
                                   (0, [[((0, 0), 0)]], False)):
            self.assertIs(table_shows(self.mill, [], Wish([], []), self.prices, cost, table), shows)

    def test_8_3_what_is_told_for_other_prices(self):
        for prices in ([[6, 1], [2, 10]], [[5, 2], [2, 10]], [[5, 1], [2, 11]], [[0, 0], [0, 0]]):
            told = cheapest(self.mill, self.letters, self.wish, prices)
            self.assertIs(self.shows(told[1], told[3]), False)


class Refusals(Sample):
    def test_0_4_letters_then_plan_then_prices(self):
        for letters in ([(0, 0)] * 3, [(10, 0)] * 3, [(1, -1)] * 3, [(1, 3)] * 3, numbered(25), [(True, 0)] * 3):
            for plan, prices in product((self.plan, [], [(9, 9)] * 3), (self.prices, [], [[-1]])):
                refuses(self, BadLetters, cost_of, self.mill, letters, plan, prices)
        narrow = [(9, 0)] + self.letters[1:]
        for letters, plan in ((self.letters, []), (self.letters, [(0, 0)] * 4), (self.letters, [(0, 2)] * 3),
                              (self.letters, [(0,)] * 3), (narrow, self.plan)):
            for prices in (self.prices, [], [[-1, 0], [0, 0]]):
                refuses(self, BadPlan, cost_of, self.mill, letters, plan, prices)

    def test_0_4_letters_then_one_order_then_prices(self):
        for letters in ([(0, 0)] * 3, [(10, 0)] * 3, [(1, -1)] * 3, [(1, 3)] * 3, numbered(25)):
            for kind, prices in product(("any", "row"), (self.prices, [], [[-1]])):
                wish = Wish(letters, [(kind, list(range(len(letters))))])
                refuses(self, BadLetters, least_table, self.mill, letters, wish, prices)
                refuses(self, BadLetters, cheapest, self.mill, letters, wish, prices)
                refuses(self, BadLetters, table_shows, self.mill, letters, wish, prices, 0, [])
        wish = Wish(self.letters, [("any", [0, 1, 2])])
        for prices in (self.prices, [], [[-1, 0], [0, 0]], [[0, 0], [0, MOST + 1]]):
            refuses(self, NotOneOrder, least_table, self.mill, self.letters, wish, prices)
            refuses(self, NotOneOrder, cheapest, self.mill, self.letters, wish, prices)
            refuses(self, NotOneOrder, table_shows, self.mill, self.letters, wish, prices, 0, [])

    def test_0_4_prices_are_looked_at_where_no_plan_does(self):
        letters = [(1, 0), (9, 0)]
        refuses(self, BadPrices, cheapest, self.mill, letters, row_wish(letters, [0, 1]), [[0, 0], [0, -1]])


class OwnLists(OwnListsTests, Sample):
    def setUp(self):
        super().setUp()
        self.barred = [(1, 0), (8, 0), (6, 1)]

    def handed(self):
        return [self.letters, self.prices, self.plan, self.table, self.barred]

    def told(self):
        barred = row_wish(self.barred, list(range(len(self.barred))))
        return [
            cost_of(self.mill, self.letters, self.plan, self.prices),
            least_table(self.mill, self.letters, self.wish, self.prices),
            cheapest(self.mill, self.letters, self.wish, self.prices),
            cheapest(self.mill, self.barred, barred, self.prices),
            cheapest(self.mill, [], Wish([], []), self.prices),
            self.shows(21, self.table),
        ]

    def test_0_2_the_mill_and_the_wish_stay_as_they_were(self):
        before = copy.deepcopy((self.mill.passes, self.wish.groups, self.wish.levels()))
        self.told()
        refuses(self, BadPrices, cheapest, self.mill, self.letters, self.wish, [])
        self.assertEqual((self.mill.passes, self.wish.groups, self.wish.levels()), before)


if __name__ == "__main__":
    unittest.main()
