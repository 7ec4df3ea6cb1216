"""What several tests use: sample mills, letters and wishes, and checks for refusals and for lists that are one."""

import copy
from itertools import permutations, product

from pocketmill.errors import BadText
from pocketmill.mills import Mill, fits
from pocketmill.wishes import Wish


def refuses(case, wanted, function, *handed):
    with case.assertRaises(wanted) as caught:
        function(*handed)
    case.assertIs(type(caught.exception), wanted)


def refused_row(case, function, *handed):
    """The number of the row that BadText keeps."""
    with case.assertRaises(BadText) as caught:
        function(*handed)
    case.assertIs(type(caught.exception), BadText)
    return caught.exception.row


def queues(many, width=9):
    return [("queue", width)] * many


def piles(many, width=9):
    return [("pile", width)] * many


def mill_of(text):
    """A mill of width 9: "qp q" has a pass with a queue and a pile, and one with a queue."""
    kinds = {"q": "queue", "p": "pile"}
    return Mill([[(kinds[sign], 9) for sign in signs] for signs in text.split()])


def words_of(mill, late):
    return list(product(*[range(len(pockets)) for pockets in mill.passes[late:]]))


def numbered(count):
    return [(1, 0)] * count


def levels_in(count):
    """All ways to put the letters up to count into levels."""
    found = set()
    for row in permutations(range(count)):
        for cuts in product((False, True), repeat=max(count - 1, 0)):
            levels = [[letter] for letter in row[:1]]
            for letter, cut in zip(row[1:], cuts):
                if cut:
                    levels.append([letter])
                else:
                    levels[-1].append(letter)
            found.add(tuple(tuple(sorted(level)) for level in levels))
    return sorted(found)


def wish_of(letters, levels):
    return Wish(letters, [("any", list(level)) for level in levels])


def all_plans(mill, letters):
    words = [[word for word in words_of(mill, late) if fits(mill, late, word, size)] for size, late in letters]
    return [list(plan) for plan in product(*words)]


def lists_within(told):
    """All lists of what is told, itself and those within it, each as often as it stands there."""
    found = [told] if isinstance(told, list) else []
    if isinstance(told, (list, tuple)):
        for part in told:
            found.extend(lists_within(part))
    return found


def all_lists_are_own(case, *told):
    lists = lists_within(list(told))
    case.assertEqual(len({id(part) for part in lists}), len(lists))


class OwnListsTests:
    """Tests of 0.2 and 0.5 for a case with told(), what functions tell, and handed(), the lists they are handed."""

    def test_0_2_what_is_handed_in_stays_as_it_was(self):
        before = copy.deepcopy(self.handed())
        self.told()
        self.assertEqual(self.handed(), before)

    def test_0_2_changing_what_was_handed_in_changes_nothing_told(self):
        told = self.told()
        before = copy.deepcopy(told)
        for handed in lists_within(self.handed()):
            handed.clear()
        self.assertEqual(told, before)

    def test_0_2_changing_what_was_told_changes_nothing(self):
        before = copy.deepcopy(self.told())
        for told in lists_within(self.told()):
            told.reverse()
            told.append(99)
        self.assertEqual(self.told(), before)

    def test_0_2_no_two_lists_are_one(self):
        all_lists_are_own(self, self.told(), self.told(), *self.handed())

    def test_0_5_the_same_question_has_the_same_answer(self):
        self.assertEqual(self.told(), self.told())


# With and without passes, single pockets, queues, piles, both, and a mill of 1000 codes.
MILLS = [
    "", "q", "p", "qq", "pp", "qp", "pq", "p p", "p q p", "qp pq", "pq qp pp", "qqq pp",
    "pqp q qp", "q p q p q p", "pppppp qqqqqq", "pqpqp qqppq pppqq qp pp pq",
]

# Small enough to walk all plans of a few letters; some have pockets that are narrow or take nothing.
SMALL_MILLS = [
    Mill([]), mill_of("q"), mill_of("p"), mill_of("qq q"), mill_of("p p"), mill_of("qp q"), mill_of("q pq"),
    Mill([[("queue", 9)], [("pile", 1), ("queue", 2)]]), Mill([[("queue", 1), ("pile", 2)], [("queue", 1)]]),
    Mill([[("pile", 0)], [("queue", 9), ("queue", 9)]]), Mill([[("queue", 9), ("pile", 9)], [("queue", 0)]]),
]


def small_cases():
    """Mills with letters and wishes of which all plans can be walked."""
    for mill in SMALL_MILLS:
        for letters in ([], [(1, 0)], [(2, 0), (1, 0)], [(1, 1), (2, 0), (1, 0)], [(1, 0), (2, 2), (1, 1)]):
            if max([late for size, late in letters], default=0) <= mill.many():
                for levels in levels_in(len(letters)):
                    yield mill, letters, wish_of(letters, levels)
