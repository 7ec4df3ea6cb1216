import copy
import unittest
from itertools import permutations, product

from helper import OwnListsTests, lists_within, queues, refuses
from pocketmill.answers import answered, looked
from pocketmill.chains import bars
from pocketmill.desk import Desk
from pocketmill.errors import BadDeed, BadMill
from pocketmill.least import least_plan
from pocketmill.mills import Mill
from pocketmill.pages import page_text, read_page
from pocketmill.wishes import Wish

PASSES = [[("queue", 9), ("pile", 7)], [("pile", 8), ("queue", 5)]]
BAD_NAMES = ["", "A", "aB", "a1", "1", "a b", " a", "a ", "a-b", "abcdefghi", "a" * 50, "a#", "\u00e4", "a\n", None, 1]
DEEDS = [
    ("put", "d", 1, 0), ("put", "e", 9, 2), ("take", "a"), ("take", "b"), ("take", "c"), ("order", "a", "row"),
    ("order", "b", "come"), ("order", "c", "any"), ("follow", "a", "b"), ("follow", "b", "a"), ("follow", "c", "a"),
    ("follow", "a", "c"), ("share", "a", "b"), ("share", "b", "a"), ("share", "c", "b"), ("share", "b", "c"),
]


def state(desk):
    return desk.names_told(), desk.letters_told(), desk.groups_told()


def whole_state(desk):
    return state(desk) + (desk.answer(), desk.deeds(), desk.text())


def do(desk, deed):
    return getattr(desk, deed[0])(*deed[1:])


def desk_of(names, *deeds):
    desk = Desk(PASSES)
    for name in names:
        desk.put(name, 1, 0)
    for deed in deeds:
        do(desk, deed)
    return desk


class Sample(unittest.TestCase):
    def groups(self, names, *deeds):
        return [kind + " " + " ".join(members) for kind, members in desk_of(names, *deeds).groups_told()]

    def refused(self, desk, *deed):
        before = whole_state(desk)
        with self.assertRaises(BadDeed) as caught:
            do(desk, deed)
        self.assertIs(type(caught.exception), BadDeed)
        self.assertEqual(whole_state(desk), before)


class Beginnings(Sample):
    def test_9_7_a_desk_begins_without_letters(self):
        desk = Desk(PASSES)
        self.assertEqual(state(desk), ([], [], []))
        self.assertEqual(desk.answer(), ("plan", []))
        self.assertEqual(desk.deeds(), 0)
        self.assertEqual(desk.text(), "pass q9 p7\npass p8 q5")

    def test_9_7_a_mill_without_passes(self):
        desk = Desk([])
        self.assertEqual(whole_state(desk), ([], [], [], ("plan", []), 0, ""))
        desk.put("a", 9, 0)
        desk.put("b", 1, 0)
        self.assertEqual(desk.answer(), ("plan", [("a", ()), ("b", ())]))
        desk.follow("a", "b")
        self.assertEqual(desk.answer(), ("chain", ["b", "a"]))
        self.assertEqual(desk.text(), "letter a 9 0\nletter b 1 0\nany b\nany a")

    def test_9_7_passes_that_are_no_mill(self):
        for passes in ([[]], [queues(7)], [queues(1)] * 7, [queues(6)] * 4, [[("queue", 10)]], [[("heap", 1)]]):
            refuses(self, BadMill, Desk, passes)

    def test_9_7_tuples_are_passes_too(self):
        self.assertEqual(Desk(tuple(tuple(pockets) for pockets in PASSES)).text(), Desk(PASSES).text())


class Put(Sample):
    def test_9_7_letters_and_groups_stand_behind_all_others(self):
        desk = Desk(PASSES)
        self.assertIsNone(desk.put("bb", 3, 1))
        self.assertIsNone(desk.put("a", 9, 2))
        desk.put("abcdefgh", 1, 0)
        self.assertEqual(state(desk), (["bb", "a", "abcdefgh"], [(3, 1), (9, 2), (1, 0)],
                                       [("any", ["bb"]), ("any", ["a"]), ("any", ["abcdefgh"])]))
        self.assertEqual(desk.deeds(), 3)

    def test_9_7_a_group_behind_groups_of_other_kinds(self):
        self.assertEqual(self.groups("abc", ("order", "c", "row"), ("follow", "c", "a"), ("put", "d", 1, 0)),
                         ["any a", "any c", "any b", "any d"])
        self.assertEqual(self.groups("ab", ("share", "a", "b"), ("order", "a", "row"), ("put", "c", 1, 0)),
                         ["row b a", "any c"])

    def test_9_7_names_that_are_none(self):
        desk = desk_of("ab")
        for name in BAD_NAMES:
            self.refused(desk, "put", name, 1, 0)

    def test_9_7_names_that_are_there(self):
        desk = desk_of("ab")
        for name in "ab":
            self.refused(desk, "put", name, 1, 0)
        desk.take("a")
        desk.put("a", 2, 1)
        self.assertEqual(state(desk), (["b", "a"], [(1, 0), (2, 1)], [("any", ["b"]), ("any", ["a"])]))

    def test_9_7_sizes_and_lates_that_the_mill_can_not_take(self):
        desk = desk_of("ab")
        for size in (0, 10, -1, 10 ** 59, True, None):
            self.refused(desk, "put", "c", size, 0)
        for late in (-1, 3, 10 ** 59, False, None):
            self.refused(desk, "put", "c", 1, late)
        for size, late in ((1, 0), (9, 2), (9, 0), (1, 1)):
            desk.put("c", size, late)
            self.assertEqual(desk.letters_told()[-1], (size, late))
            desk.undo()
        self.refused(Desk([]), "put", "a", 1, 1)

    def test_9_7_24_letters_and_a_25th(self):
        names = [f"n{letter}" for letter in "abcdefghijklmnopqrstuvwx"]
        desk = desk_of(names)
        self.assertEqual(desk.names_told(), names)
        self.refused(desk, "put", "more", 1, 0)
        self.assertEqual(desk.answer()[0], "plan")
        desk.take("na")
        desk.put("more", 1, 0)
        self.assertEqual(desk.names_told(), names[1:] + ["more"])
        self.refused(desk, "put", "na", 1, 0)
        desk.undo()
        desk.put("na", 1, 0)
        self.refused(desk, "put", "more", 1, 0)


class Take(Sample):
    def test_9_7_a_letter_alone_in_its_group(self):
        desk = desk_of("abc")
        self.assertIsNone(desk.take("b"))
        self.assertEqual(state(desk), (["a", "c"], [(1, 0), (1, 0)], [("any", ["a"]), ("any", ["c"])]))
        self.assertEqual(desk.deeds(), 4)

    def test_9_7_a_letter_that_is_not_alone(self):
        self.assertEqual(self.groups("abc", ("share", "a", "b"), ("order", "a", "row"), ("take", "b")),
                         ["row a", "any c"])
        self.assertEqual(self.groups("abc", ("share", "a", "b"), ("share", "c", "b"), ("take", "a")), ["any b c"])

    def test_9_7_its_size_and_late_go_with_it(self):
        desk = Desk(PASSES)
        for name, size, late in (("a", 1, 0), ("b", 2, 1), ("c", 3, 2), ("d", 2, 1)):
            desk.put(name, size, late)
        desk.take("b")
        self.assertEqual(desk.letters_told(), [(1, 0), (3, 2), (2, 1)])
        self.assertEqual(desk.names_told(), ["a", "c", "d"])

    def test_9_7_the_last_letter(self):
        desk = desk_of("a", ("take", "a"))
        self.assertEqual(state(desk), ([], [], []))
        self.refused(desk, "take", "a")

    def test_9_7_names_that_are_not_there(self):
        desk = desk_of("ab")
        for name in BAD_NAMES + ["c", "aa", "ab"]:
            self.refused(desk, "take", name)


class Follow(Sample):
    def test_9_7_a_letter_alone_in_its_group(self):
        for name, other, groups in (
            ("a", "b", ["any b", "any a", "any c"]), ("a", "c", ["any b", "any c", "any a"]),
            ("c", "a", ["any a", "any c", "any b"]), ("b", "a", ["any a", "any b", "any c"]),
        ):
            self.assertEqual(self.groups("abc", ("follow", name, other)), groups)

    def test_9_7_a_letter_that_is_not_alone(self):
        deeds = [("share", "b", "a"), ("share", "c", "a"), ("order", "a", "row")]
        self.assertEqual(self.groups("abcd", *deeds), ["row a b c", "any d"])
        self.assertEqual(self.groups("abcd", *deeds, ("follow", "b", "d")), ["row a c", "any d", "any b"])
        self.assertEqual(self.groups("abcd", *deeds, ("follow", "d", "b")), ["row a b c", "any d"])

    def test_9_7_letters_of_the_same_group(self):
        deeds = [("share", "b", "a"), ("share", "c", "a"), ("order", "a", "come")]
        for name, other, left in (("a", "b", "b c"), ("b", "a", "a c"), ("c", "a", "a b"), ("a", "c", "b c")):
            self.assertEqual(self.groups("abcd", *deeds, ("follow", name, other)),
                             ["come " + left, "any " + name, "any d"])

    def test_9_7_the_kind_of_the_group_is_left_behind(self):
        self.assertEqual(self.groups("ab", ("order", "a", "row"), ("follow", "a", "b")), ["any b", "any a"])

    def test_9_7_it_tells_nothing_and_letters_stay(self):
        desk = desk_of("abc")
        self.assertIsNone(desk.follow("a", "c"))
        self.assertEqual(desk.names_told(), ["a", "b", "c"])
        self.assertEqual(desk.deeds(), 4)


class Share(Sample):
    def test_9_7_a_letter_alone_in_its_group(self):
        for name, other, groups in (
            ("a", "b", ["any b a", "any c"]), ("b", "a", ["any a b", "any c"]), ("c", "a", ["any a c", "any b"]),
            ("a", "c", ["any b", "any c a"]),
        ):
            self.assertEqual(self.groups("abc", ("share", name, other)), groups)

    def test_9_7_a_letter_that_is_not_alone(self):
        deeds = [("share", "a", "b"), ("share", "c", "d"), ("order", "d", "row")]
        self.assertEqual(self.groups("abcd", *deeds), ["any b a", "row d c"])
        self.assertEqual(self.groups("abcd", *deeds, ("share", "b", "c")), ["any a", "row d c b"])
        self.assertEqual(self.groups("abcd", *deeds, ("share", "d", "b")), ["any b a d", "row c"])

    def test_9_7_letters_of_the_same_group(self):
        deeds = [("share", "b", "a"), ("share", "c", "a"), ("order", "a", "row")]
        for name, other, told in (("a", "b", "b c a"), ("a", "c", "b c a"), ("b", "a", "a c b"), ("c", "a", "a b c")):
            self.assertEqual(self.groups("abcd", *deeds, ("share", name, other)), ["row " + told, "any d"])

    def test_9_7_the_other_groups_kind_holds(self):
        self.assertEqual(self.groups("ab", ("order", "a", "row"), ("order", "b", "come"), ("share", "a", "b")),
                         ["come b a"])

    def test_9_7_it_tells_nothing_and_letters_stay(self):
        desk = desk_of("abc")
        self.assertIsNone(desk.share("a", "c"))
        self.assertEqual(desk.names_told(), ["a", "b", "c"])
        self.assertEqual(desk.deeds(), 4)


class TwoNames(Sample):
    def test_9_7_both_names_the_same_or_one_not_there(self):
        desk = desk_of("abc", ("share", "b", "a"))
        for deed in ("follow", "share"):
            for name in "abc":
                self.refused(desk, deed, name, name)
            for name in BAD_NAMES + ["d", "ab"]:
                self.refused(desk, deed, name, "a")
                self.refused(desk, deed, "a", name)
                self.refused(desk, deed, name, name)


class Order(Sample):
    def test_9_7_another_kind_for_the_letters_group(self):
        for kind in ("any", "come", "row"):
            self.assertEqual(self.groups("abc", ("share", "b", "a"), ("order", "b", kind)), [kind + " a b", "any c"])
            self.assertEqual(self.groups("abc", ("share", "b", "a"), ("order", "c", kind)), ["any a b", kind + " c"])
        self.assertEqual(self.groups("ab", ("order", "a", "row"), ("order", "a", "come")), ["come a", "any b"])

    def test_9_7_the_kind_that_it_has_is_a_deed_too(self):
        desk = desk_of("a")
        self.assertIsNone(desk.order("a", "any"))
        self.assertEqual((desk.deeds(), desk.groups_told()), (2, [("any", ["a"])]))

    def test_9_7_kinds_that_are_none(self):
        desk = desk_of("ab")
        for kind in ("", "Any", "rows", "queue", "a", "any ", None, 0, ["any"]):
            self.refused(desk, "order", "a", kind)

    def test_9_7_names_that_are_not_there(self):
        desk = desk_of("ab")
        for name in BAD_NAMES + ["c", "ab"]:
            for kind in ("row", "none"):
                self.refused(desk, "order", name, kind)


class Undo(Sample):
    def test_9_7_no_deed_left(self):
        desk = Desk(PASSES)
        self.refused(desk, "undo")
        desk.put("a", 1, 0)
        self.assertIsNone(desk.undo())
        self.refused(desk, "undo")
        self.assertEqual(state(desk), ([], [], []))

    def test_9_7_each_deed_is_taken_back(self):
        for deed in DEEDS:
            desk = desk_of("abc", ("share", "b", "a"), ("order", "a", "row"))
            before = whole_state(desk)
            self.assertIsNone(do(desk, deed))
            self.assertEqual(desk.deeds(), 6)
            desk.undo()
            self.assertEqual(whole_state(desk), before)

    def test_9_7_deeds_taken_back_one_by_one(self):
        desk = desk_of("")
        deeds = [("put", "a", 1, 0), ("put", "b", 8, 0), ("put", "c", 6, 1), ("share", "a", "b"), ("order", "a", "row"),
                 ("follow", "c", "b"), ("put", "d", 9, 2), ("follow", "b", "a"), ("take", "a"), ("share", "d", "c"),
                 ("order", "c", "come"), ("take", "c"), ("put", "a", 2, 2), ("take", "d"), ("take", "b"), ("take", "a")]
        states = []
        for number, deed in enumerate(deeds):
            self.assertEqual(desk.deeds(), number)
            states.append(whole_state(desk))
            do(desk, deed)
        for before in reversed(states):
            desk.undo()
            self.assertEqual(whole_state(desk), before)
        self.refused(desk, "undo")

    def test_9_7_over_all_ways_of_three_deeds(self):
        for deeds in product(DEEDS, repeat=3):
            desk = desk_of("abc")
            states = []
            for deed in deeds:
                before = (state(desk), desk.deeds())
                try:
                    do(desk, deed)
                    states.append(before)
                except BadDeed:
                    self.assertEqual((state(desk), desk.deeds()), before)
            self.assertEqual(desk.deeds(), 3 + len(states))
            for before in reversed(states):
                desk.undo()
                self.assertEqual((state(desk), desk.deeds()), before)

    def test_9_7_deeds_behind_undone_ones(self):
        desk = desk_of("ab", ("follow", "a", "b"), ("undo",), ("share", "a", "b"), ("order", "a", "row"))
        self.assertEqual((desk.groups_told(), desk.deeds()), ([("row", ["b", "a"])], 4))
        desk.undo()
        desk.undo()
        # What was taken back stays so: the deed ahead of it is the next one.
        self.assertEqual((desk.groups_told(), desk.deeds()), ([("any", ["a"]), ("any", ["b"])], 2))
        desk.undo()
        self.assertEqual((desk.names_told(), desk.deeds()), (["a"], 1))

    def test_9_7_refused_deeds_are_not_taken_back(self):
        desk = desk_of("ab")
        for deed in (("put", "a", 1, 0), ("take", "c"), ("follow", "a", "a"), ("share", "a", "c"), ("order", "a", "x")):
            self.refused(desk, *deed)
        desk.undo()
        self.assertEqual(state(desk), (["a"], [(1, 0)], [("any", ["a"])]))


class Answer(Sample):
    def test_9_7_the_least_plan(self):
        desk = desk_of("abc", ("follow", "a", "c"), ("follow", "b", "a"))
        self.assertEqual(desk.answer(), ("plan", [("a", (0, 0)), ("b", (0, 1)), ("c", (1, 0))]))

    def test_9_7_a_chain(self):
        desk = Desk(PASSES)
        for name, size, late in (("b", 8, 0), ("c", 6, 1)):
            desk.put(name, size, late)
        # Of two letters no other chain than that of both bars, where each has an open place.
        self.assertEqual(desk.answer(), ("chain", ["b", "c"]))
        desk.follow("b", "c")
        self.assertEqual(desk.answer(), ("plan", [("b", (0, 0)), ("c", (0,))]))
        desk.take("c")
        desk.put("d", 9, 0)
        desk.take("b")
        self.assertEqual(desk.answer(), ("chain", ["d"]))

    def test_9_7_as_its_page_is_answered(self):
        sizes = {"a": (1, 0), "b": (8, 0), "c": (6, 1)}
        for order in permutations("abc"):
            for deeds in product(DEEDS[5:], repeat=2):
                desk = Desk(PASSES)
                for name in order:
                    desk.put(name, *sizes[name])
                for deed in deeds:
                    do(desk, deed)
                self.look_at_answer(desk)

    def look_at_answer(self, desk):
        names, letters, groups = state(desk)
        wish = Wish(letters, [(kind, [names.index(name) for name in members]) for kind, members in groups])
        told = desk.answer()
        if told[0] == "plan":
            self.assertEqual([name for name, word in told[1]], names)
            self.assertEqual(least_plan(Mill(PASSES), letters, wish), ("plan", [word for name, word in told[1]]))
        else:
            chain = [names.index(name) for name in told[1]]
            self.assertIs(bars(Mill(PASSES), letters, wish, chain), True)
        self.assertEqual(answered(desk.text()).split("\n")[0].split(" ")[0], told[0])
        self.assertEqual(looked(desk.text(), answered(desk.text())), [])

    def test_0_3_kinds(self):
        told = desk_of("ab").answer()
        self.assertEqual([type(part) for part in (told, *told, *told[1], told[1][0][1])],
                         [tuple, str, list, tuple, tuple, tuple])
        desk = Desk([])
        for name in "ab":
            desk.put(name, 1, 0)
        desk.follow("a", "b")
        self.assertEqual([type(part) for part in (desk.answer(), *desk.answer())], [tuple, str, list])
        self.assertEqual([type(part) for part in state(desk)], [list, list, list])
        self.assertEqual({type(part) for part in desk.letters_told() + desk.groups_told()}, {tuple})
        self.assertEqual({type(members) for kind, members in desk.groups_told()}, {list})


class Text(Sample):
    def test_9_7_a_pages_text(self):
        desk = Desk(PASSES)
        for name, size, late in (("bb", 1, 0), ("a", 8, 0), ("end", 6, 1), ("d", 9, 2)):
            desk.put(name, size, late)
        do(desk, ("share", "bb", "d"))
        do(desk, ("order", "bb", "row"))
        do(desk, ("order", "a", "come"))
        self.assertEqual(desk.text(), "pass q9 p7\npass p8 q5\n"
                                      "letter bb 1 0\nletter a 8 0\nletter end 6 1\nletter d 9 2\n"
                                      "come a\nany end\nrow d bb")

    def test_9_7_it_is_read_as_the_desk_is(self):
        for deeds in product(DEEDS, repeat=2):
            desk = desk_of("abc")
            for deed in deeds:
                try:
                    do(desk, deed)
                except BadDeed:
                    pass
            page = read_page(desk.text())
            groups = [(kind, [page.names[letter] for letter in members]) for kind, members in page.wish.groups]
            self.assertEqual((page.names, page.letters, groups), state(desk))
            self.assertEqual(page.mill.passes, Mill(PASSES).passes)
            self.assertEqual(page.prices, [[0, 0], [0, 0]])
            self.assertEqual(page_text(page), desk.text())


class OwnLists(OwnListsTests, Sample):
    def setUp(self):
        self.passes = copy.deepcopy(PASSES)
        self.desk = Desk(self.passes)
        for name in "abcd":
            self.desk.put(name, 1, 0)
        self.desk.share("a", "b")
        # A letter of this size fits nowhere, so a chain is told.
        self.barred = Desk(self.passes)
        self.barred.put("a", 9, 0)

    def handed(self):
        return [self.passes]

    def told(self):
        return [whole_state(self.desk), whole_state(self.barred), state(self.desk)]

    def test_0_2_changing_the_passes_later_changes_nothing(self):
        before = whole_state(self.desk)
        self.passes[0].clear()
        self.passes.append([("pile", 1)])
        self.assertEqual(whole_state(self.desk), before)
        self.desk.put("e", 1, 2)
        self.refused(self.desk, "put", "f", 1, 3)

    def test_0_2_what_was_told_stays_as_it_was(self):
        told = self.told()
        before = copy.deepcopy(told)
        self.desk.take("a")
        self.desk.share("c", "d")
        self.desk.order("c", "row")
        self.desk.undo()
        self.barred.undo()
        self.assertEqual(told, before)

    def test_0_2_two_desks_have_nothing_in_common(self):
        before = whole_state(self.barred)
        self.desk.take("a")
        self.assertEqual(whole_state(self.barred), before)

    def test_0_2_changing_what_was_told_changes_no_deed_to_be_taken_back(self):
        deeds = [("share", "b", "a"), ("order", "a", "row"), ("follow", "a", "c"), ("take", "b")]
        desk = desk_of("abc")
        for deed in deeds:
            for part in lists_within(whole_state(desk)):
                part.clear()
            do(desk, deed)
        for many in range(3, -1, -1):
            desk.undo()
            self.assertEqual(whole_state(desk), whole_state(desk_of("abc", *deeds[:many])))


if __name__ == "__main__":
    unittest.main()
