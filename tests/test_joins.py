import copy
import unittest
from itertools import permutations, product

from helper import MILLS, OwnListsTests, mill_of, numbered, piles, queues, refuses, words_of
from pocketmill.errors import BadMill, BadPlan, BadRow, Shut
from pocketmill.joins import classes, end_from, into_queues, mill_behind, parting, plan_behind
from pocketmill.mills import Mill, face, word_code
from pocketmill.trays import end_row

SMALL = ["", "q", "p", "qp", "pq", "qq", "p p", "qp q", "p qp", "qpq"]
SHUT_MILLS = [
    Mill([[("queue", 0)]]), Mill([[("queue", 9), ("pile", 0)]]), Mill([queues(2), piles(2) + [("queue", 0)]]),
]
# Of the mill "qp pq".
BAD_PLANS = [
    [(0,)], [(0, 0, 0)], [()], [(2, 0)], [(0, 2)], [(-1, 0)], [(0, 0), (1, -1)], [(0, 0), (1,)], [(0, True)],
    [(0, 10 ** 59)], [[0, 0]], [(0, 0)] * 25, "ab",
]


def comings(many):
    return [list(coming) for coming in permutations(range(many))]


def plans_of(mill, many):
    return [list(plan) for plan in product(words_of(mill, 0), repeat=many)]


def end_rows(mill, plan):
    return [end_from(mill, plan, coming) for coming in comings(len(plan))]


def walked(mill, plan, coming):
    row = coming
    for step, pockets in enumerate(mill.passes):
        behind = []
        for number, pocket in enumerate(pockets):
            heap = [letter for letter in row if plan[letter][step] == number]
            behind += heap if pocket[0] == "queue" else heap[::-1]
        row = behind
    return row


def alike(mill, plan, other_mill, other_plan):
    """Whether, codes left out, the classes are as 7.2 asks."""
    sides = [[(members, side if len(members) > 1 else 0) for code, members, side in told]
             for told in (classes(mill, plan), classes(other_mill, other_plan))]
    return sides[0] == sides[1]


class EndFrom(unittest.TestCase):
    def test_7_1_the_coming_is_the_row_at_first(self):
        mill = mill_of("qp pq")
        plan = [(1, 0), (1, 0), (0, 1), (0, 0)]
        for coming, told in (
            ([0, 1, 2, 3], [0, 1, 3, 2]), ([1, 0, 3, 2], [1, 0, 3, 2]), ([3, 2, 1, 0], [1, 0, 3, 2]),
            ([2, 0, 3, 1], [0, 1, 3, 2]),
        ):
            self.assertEqual(end_from(mill, plan, coming), told)

    def test_7_1_over_all_comings(self):
        for text in SMALL + ["qp pq"]:
            mill = mill_of(text)
            for plan in plans_of(mill, 3):
                for coming in comings(3):
                    self.assertEqual(end_from(mill, plan, coming), walked(mill, plan, coming))

    def test_7_1_letters_that_come_by_their_numbers(self):
        for text in MILLS:
            mill = mill_of(text)
            words = words_of(mill, 0)
            plan = [words[(7 * letter + 3) % len(words)] for letter in range(24)]
            self.assertEqual(end_from(mill, plan, list(range(24))), end_row(mill, numbered(24), plan))

    def test_7_1_no_words_and_no_passes(self):
        for text in MILLS:
            self.assertEqual(end_from(mill_of(text), [], []), [])
        self.assertEqual(end_from(Mill([]), [()] * 3, [2, 0, 1]), [2, 0, 1])

    def test_7_1_24_words(self):
        coming = list(range(12, 24)) + list(range(12))
        self.assertEqual(end_from(mill_of("p"), [(0,)] * 24, coming), coming[::-1])
        self.assertEqual(end_from(mill_of("qq"), [(letter % 2,) for letter in range(24)], coming),
                         [letter for odd in (0, 1) for letter in coming if letter % 2 == odd])

    def test_7_1_comings_that_are_none(self):
        mill, plan = mill_of("qp pq"), [(0, 0), (1, 1), (0, 1)]
        for coming in ([], [0], [0, 1], [1, 2], [0, 1, 1], [0, 1, 3], [-1, 0, 1], [1, 2, 3], [0, 1, 2, 3], [0, 1, 2, 2],
                       [False, 1, 2], [0, True, 2], [0, 1, 10 ** 59]):
            refuses(self, BadRow, end_from, mill, plan, coming)
        refuses(self, BadRow, end_from, mill, [], [0])
        refuses(self, BadRow, end_from, mill, [(0, 0)] * 24, list(range(25)))


class Classes(unittest.TestCase):
    def test_7_2_by_rising_codes(self):
        mill = mill_of("qp pq")
        # The codes of (0, 0), (0, 1), (1, 0) and (1, 1) are 1, 2, 0 and 3.
        for plan, told in (
            ([(1, 0), (0, 0), (1, 0), (0, 1), (1, 1)], [(0, [0, 2], 1), (1, [1], -1), (2, [3], 1), (3, [4], -1)]),
            ([(1, 1), (1, 1), (1, 0)], [(0, [2], 1), (3, [0, 1], -1)]),
            ([(0, 0)] * 3, [(1, [0, 1, 2], -1)]),
            ([], []),
        ):
            self.assertEqual(classes(mill, plan), told)

    def test_7_2_a_class_for_each_code_that_words_have(self):
        for text in SMALL + ["qp pq"]:
            mill = mill_of(text)
            for plan in plans_of(mill, 3):
                told = classes(mill, plan)
                codes = [word_code(mill, 0, word) for word in plan]
                self.assertEqual([code for code, members, side in told], sorted(set(codes)))
                for code, members, side in told:
                    self.assertEqual(members, [letter for letter in range(3) if codes[letter] == code])
                    self.assertEqual({side}, {face(mill, 0, plan[letter]) for letter in members})

    def test_7_2_no_passes_and_24_words(self):
        self.assertEqual(classes(Mill([]), [()] * 24), [(0, list(range(24)), 1)])
        self.assertEqual(classes(mill_of("pp"), [(1,)] * 24), [(1, list(range(24)), -1)])

    def test_7_2_classes_stand_side_by_side_in_the_end_row(self):
        for text in SMALL:
            mill = mill_of(text)
            for plan in plans_of(mill, 3):
                for coming in comings(3):
                    row = []
                    for code, members, side in classes(mill, plan):
                        row += [letter for letter in coming[::side] if letter in members]
                    self.assertEqual(end_from(mill, plan, coming), row)

    def test_0_3_kinds(self):
        told = classes(mill_of("qp"), [(0,), (1,), (0,)])
        self.assertEqual([type(part) for part in [told] + told], [list, tuple, tuple])
        self.assertEqual([type(part) for part in told[0]], [int, list, int])


class Parting(unittest.TestCase):
    def told(self, mill, plan, other_mill, other_plan):
        told = parting(mill, plan, other_mill, other_plan)
        if told is not None:
            self.assertIs(type(told), list)
            self.assertNotEqual(end_from(mill, plan, told), end_from(other_mill, other_plan, told))
        return told

    def test_7_2_plans_that_do_the_same(self):
        for text, plan, other_text, other_plan in (
            ("", [(), ()], "", [(), ()]), ("", [()] * 3, "q", [(0,)] * 3), ("", [()] * 3, "p p", [(0, 0)] * 3),
            ("qp", [(0,), (1,), (0,)], "qq", [(0,), (1,), (0,)]), ("qqq", [(0,), (2,)], "qq", [(0,), (1,)]),
            ("p", [(0,)], "q", [(0,)]), ("", [], "qp pq", []), ("qp pq", [(1, 0), (1, 0)], "q", [(0,), (0,)]),
            ("qp pq", [(0, 0), (1, 1)], "qp", [(0,), (1,)]),
        ):
            self.assertIsNone(self.told(mill_of(text), plan, mill_of(other_text), other_plan))

    def test_7_2_plans_that_do_not(self):
        for text, plan, other_text, other_plan in (
            # Another face, another order of classes, classes put together, and letters in other classes.
            ("q", [(0,), (0,)], "p", [(0,), (0,)]), ("qq", [(0,), (1,)], "qq", [(1,), (0,)]),
            ("qq", [(0,), (1,)], "q", [(0,), (0,)]), ("qq", [(0,), (1,)], "p", [(0,), (0,)]),
            ("qq", [(0,), (0,), (1,)], "qq", [(0,), (1,), (0,)]), ("qq", [(0,), (0,), (1,)], "qp", [(0,), (1,), (1,)]),
            ("qp", [(1,), (0,), (1,)], "qq", [(1,), (0,), (1,)]), ("", [(), ()], "qq", [(0,), (1,)]),
        ):
            mills = mill_of(text), mill_of(other_text)
            self.assertIsNotNone(self.told(mills[0], plan, mills[1], other_plan))
            self.assertIsNotNone(self.told(mills[1], other_plan, mills[0], plan))

    def test_7_2_over_all_plans_and_comings(self):
        for many in range(4):
            plans = [(mill_of(text), plan) for text in SMALL for plan in plans_of(mill_of(text), many)]
            plans = [(mill, plan, end_rows(mill, plan)) for mill, plan in plans]
            for (mill, plan, rows), (other_mill, other_plan, other_rows) in product(plans, repeat=2):
                told = self.told(mill, plan, other_mill, other_plan)
                self.assertIs(told is None, rows == other_rows)
                self.assertIs(alike(mill, plan, other_mill, other_plan), rows == other_rows)

    def test_7_2_four_letters_and_one_mill(self):
        mill = mill_of("qp")
        for plan, other in product(plans_of(mill, 4), repeat=2):
            self.assertIs(self.told(mill, plan, mill, other) is None, end_rows(mill, plan) == end_rows(mill, other))

    def test_7_2_24_words(self):
        mill = mill_of("qp pq")
        words = words_of(mill, 0)
        plan = [words[letter % 4] for letter in range(24)]
        self.assertIsNone(self.told(mill, plan, mill, list(plan)))
        for letter in range(24):
            other = list(plan)
            other[letter] = words[(letter + 1) % 4]
            self.assertIsNotNone(self.told(mill, plan, mill, other))

    def test_7_1_unlike_counts(self):
        for many, other in ((0, 1), (1, 0), (2, 3), (24, 23)):
            refuses(self, BadPlan, parting, mill_of("q"), [(0,)] * many, mill_of("qp"), [(1,)] * other)


class Behind(unittest.TestCase):
    def test_7_3_the_passes_of_one_and_then_the_other(self):
        one, other = Mill([queues(2), piles(1, 3)]), Mill([[("queue", 0), ("pile", 5)]])
        told = mill_behind(one, other)
        self.assertIs(type(told), Mill)
        self.assertEqual(told.passes, one.passes + other.passes)
        self.assertEqual(mill_behind(other, one).passes, other.passes + one.passes)
        self.assertEqual((told.many(), told.codes()), (3, 4))
        for text in MILLS:
            self.assertEqual(mill_behind(mill_of(text), Mill([])).passes, mill_of(text).passes)
            self.assertEqual(mill_behind(Mill([]), mill_of(text)).passes, mill_of(text).passes)

    def test_7_3_at_most_6_passes(self):
        self.assertEqual(mill_behind(mill_of("q q q q"), mill_of("p p")).many(), 6)
        for one, other in (("q q q q", "p p p"), ("q", "q q q q q q"), ("p p p p p p", "p p p p p p")):
            refuses(self, BadMill, mill_behind, mill_of(one), mill_of(other))

    def test_7_3_at_most_1000_codes(self):
        self.assertEqual(mill_behind(mill_of("qqqqq qqqqq qq"), mill_of("qqqqq qq qq")).codes(), 1000)
        self.assertEqual(mill_behind(mill_of("qqqqqq qqqqqq"), mill_of("qqqqqq qqqq")).codes(), 864)
        for one, other in (("qqqqqq qqqqqq", "qqqqqq qqqqq"), ("pqpqp qqppq pppqq qp pp pq", "qq"),
                           ("qqqqq qqqqq qqq", "qqqqq qqq")):
            refuses(self, BadMill, mill_behind, mill_of(one), mill_of(other))

    def test_7_3_words_put_together(self):
        self.assertEqual(plan_behind([(0, 1), (1, 0)], [(2,), (0,)]), [(0, 1, 2), (1, 0, 0)])
        self.assertEqual(plan_behind([(2,), (0,)], [(0, 1), (1, 0)]), [(2, 0, 1), (0, 1, 0)])
        self.assertEqual(plan_behind([(), ()], [(1,), (0,)]), [(1,), (0,)])
        self.assertEqual(plan_behind([(1,), (0,)], [(), ()]), [(1,), (0,)])
        self.assertEqual(plan_behind([], []), [])
        self.assertEqual(plan_behind([(0,)] * 24, [(1,)] * 24), [(0, 1)] * 24)

    def test_7_3_the_end_row_is_the_second_ones_from_the_first_ones(self):
        for one, other in product(("", "q", "p", "qp", "pq"), ("", "q", "p", "qp", "pq", "p q")):
            one, other = mill_of(one), mill_of(other)
            both = mill_behind(one, other)
            for plan, further in product(plans_of(one, 3), plans_of(other, 3)):
                together = plan_behind(plan, further)
                for coming in ([0, 1, 2], [2, 0, 1], [1, 2, 0]):
                    self.assertEqual(end_from(both, together, coming),
                                     end_from(other, further, end_from(one, plan, coming)))

    def test_7_3_unlike_counts(self):
        for plan, other in (([], [(0,)]), ([(0,)], []), ([(0,)] * 2, [(0,)] * 3), ([(0,)] * 24, [(0,)] * 23)):
            refuses(self, BadPlan, plan_behind, plan, other)

    def test_0_3_kinds(self):
        told = plan_behind([(0, 1), (1, 0)], [(2,), (0,)])
        self.assertEqual([type(part) for part in [told] + told], [list, tuple, tuple])


class IntoQueues(unittest.TestCase):
    def test_7_4_a_plan_that_does_the_same(self):
        for text in SMALL + ["qp pq"]:
            mill = mill_of(text)
            for many in range(4):
                for plan in plans_of(mill, many):
                    told = into_queues(mill, plan)
                    turned = any(side == -1 and len(members) > 1 for code, members, side in classes(mill, plan))
                    self.assertIs(told is None, turned)
                    if told is not None:
                        self.assertEqual(told[0].passes, tuple(tuple(queues(len(pockets))) for pockets in mill.passes))
                        self.assertEqual(end_rows(told[0], told[1]), end_rows(mill, plan))
                        self.assertIsNone(parting(mill, plan, told[0], told[1]))

    def test_7_4_classes_of_two_letters_or_more_with_the_face_below_nought(self):
        for text, plan in (
            ("p", [(0,), (0,)]), ("qp", [(0,), (1,), (1,)]), ("q p q", [(0, 0, 0)] * 24), ("p p p", [(0, 0, 0)] * 3),
            ("qp pq", [(0, 0), (1, 0), (0, 0)]),
        ):
            self.assertIsNone(into_queues(mill_of(text), plan))

    def test_7_4_one_letter_with_the_face_below_nought(self):
        for text, plan in (
            ("p", [(0,)]), ("qp", [(0,), (1,), (0,)]), ("pp", [(1,), (0,)]),
            ("qp pq", [(0, 0), (1, 0), (1, 0), (1, 1)]),
        ):
            mill = mill_of(text)
            queue_mill, queue_plan = into_queues(mill, plan)
            self.assertEqual({pocket for pockets in queue_mill.passes for pocket in pockets}, {("queue", 9)})
            self.assertEqual(end_rows(queue_mill, queue_plan), end_rows(mill, plan))

    def test_7_4_no_words_and_no_passes(self):
        for text in MILLS:
            told = into_queues(mill_of(text), [])
            self.assertEqual([len(pockets) for pockets in told[0].passes],
                             [len(pockets) for pockets in mill_of(text).passes])
            self.assertEqual(told[1], [])
        told = into_queues(Mill([]), [()] * 24)
        self.assertEqual((told[0].passes, told[1]), ((), [()] * 24))

    def test_7_4_widths_are_9_whatever_they_were(self):
        told = into_queues(Mill([[("queue", 1), ("pile", 2)], [("pile", 3)]]), [(0, 0), (1, 0)])
        self.assertEqual(told[0].passes, (tuple(queues(2)), tuple(queues(1))))

    def test_7_4_else_no_mill_of_queues_has_such_a_plan(self):
        for plan in ([(0,), (0,)], [(0,), (0,), (1,)], [(1,), (1,), (1,)]):
            self.assertIsNone(into_queues(mill_of("pp"), plan))
            for text in ("", "q", "qq", "qqq", "qq qq"):
                for other in plans_of(mill_of(text), len(plan)):
                    self.assertIsNotNone(parting(mill_of("pp"), plan, mill_of(text), other))

    def test_7_4_24_words(self):
        mill = mill_of("pqpqp qqppq pppqq qp pp pq")
        words = words_of(mill, 0)
        plan = [words[41 * letter] for letter in range(24)]
        told = into_queues(mill, plan)
        self.assertIsNone(parting(mill, plan, told[0], told[1]))

    def test_0_3_kinds(self):
        told = into_queues(mill_of("qp"), [(0,), (1,)])
        self.assertEqual([type(part) for part in (told,) + told], [tuple, Mill, list])
        self.assertEqual({type(word) for word in told[1]}, {tuple})


class Refusals(unittest.TestCase):
    def test_7_1_bad_plans(self):
        mill = mill_of("qp pq")
        for plan in BAD_PLANS:
            good = [(0, 0)] * len(plan[:24])
            refuses(self, BadPlan, classes, mill, plan)
            refuses(self, BadPlan, into_queues, mill, plan)
            refuses(self, BadPlan, parting, mill, plan, mill, good)
            refuses(self, BadPlan, parting, mill, good, mill, plan)
            for coming in (list(range(len(plan))), [], [5]):
                refuses(self, BadPlan, end_from, mill, plan, coming)
        for plan in ([(0,)], [()] * 25, [(), (0,)]):
            refuses(self, BadPlan, classes, Mill([]), plan)

    def test_7_1_plans_of_24_and_25_words(self):
        self.assertEqual(classes(mill_of("q"), [(0,)] * 24), [(0, list(range(24)), 1)])
        self.assertIsNone(parting(mill_of("q"), [(0,)] * 24, mill_of("p p"), [(0, 0)] * 24))
        refuses(self, BadPlan, parting, mill_of("q"), [(0,)] * 25, mill_of("q"), [(0,)] * 25)
        refuses(self, BadPlan, end_from, mill_of("q"), [(0,)] * 25, list(range(25)))

    def test_7_1_shut_goes_first(self):
        for mill in SHUT_MILLS:
            for plan in [[], [(0,)], [(0, 0)]] + BAD_PLANS:
                refuses(self, Shut, classes, mill, plan)
                refuses(self, Shut, into_queues, mill, plan)
                for coming in (list(range(len(plan))), [7, 7]):
                    refuses(self, Shut, end_from, mill, plan, coming)
                for other in ([], [()], [(9,)]):
                    refuses(self, Shut, parting, mill, plan, Mill([]), other)

    def test_0_4_the_first_plan_is_looked_at_ahead_of_the_second(self):
        mill, shut = mill_of("qp pq"), SHUT_MILLS[1]
        for plan in BAD_PLANS:
            refuses(self, BadPlan, parting, mill, plan, shut, [(0,)])
            refuses(self, Shut, parting, mill, [(0, 0)], shut, plan)
            refuses(self, Shut, parting, shut, [(0,)], mill, plan)
        refuses(self, Shut, parting, mill, [(0, 0)] * 2, shut, [(0,)] * 3)

    def test_7_3_mills_and_plans_behind_are_put_together_whatever_their_widths(self):
        for shut in SHUT_MILLS:
            self.assertEqual(mill_behind(shut, mill_of("q")).passes, shut.passes + mill_of("q").passes)


class OwnLists(OwnListsTests, unittest.TestCase):
    def setUp(self):
        self.mill = mill_of("qp pq")
        self.plan = [(1, 0), (0, 0), (1, 0)]
        self.other = [(1, 1), (0, 0), (1, 1)]
        self.coming = [2, 0, 1]

    def handed(self):
        return [self.plan, self.other, self.coming]

    def told(self):
        return [end_from(self.mill, self.plan, self.coming), end_from(Mill([]), [()] * 3, self.coming),
                classes(self.mill, self.plan), parting(self.mill, self.plan, self.mill, self.other),
                plan_behind(self.plan, self.other), into_queues(self.mill, self.plan)[1],
                mill_behind(self.mill, self.mill).passes, into_queues(self.mill, self.plan)[0].passes]

    def test_0_2_what_is_refused_stays_as_it_was(self):
        before = copy.deepcopy(self.handed())
        refuses(self, BadRow, end_from, self.mill, self.plan, self.coming[:2])
        refuses(self, BadPlan, plan_behind, self.plan, self.other[:2])
        refuses(self, BadPlan, classes, mill_of("q"), self.plan)
        refuses(self, BadMill, mill_behind, self.mill, mill_of("q q q q q"))
        self.assertEqual(self.handed(), before)
        self.assertEqual(self.mill.passes, mill_of("qp pq").passes)


if __name__ == "__main__":
    unittest.main()
