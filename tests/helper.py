"""What several tests use: sample mills, letters and wishes, and checks for refusals and for lists that are one."""

from itertools import permutations, product

from pocketmill.mills import Mill


def refuses(case, wanted, function, *handed):
    with case.assertRaises(wanted) as caught:
        function(*handed)
    case.assertIs(type(caught.exception), wanted)


def queues(many, width=9):
    return [("queue", width)] * many


def piles(many, width=9):
    return [("pile", width)] * many


def mill_of(text):
    """A mill of width 9: "qp q" has a pass with a queue and a pile, and one with a queue."""
    kinds = {"q": "queue", "p": "pile"}
    return Mill([[(kinds[sign], 9) for sign in signs] for signs in text.split()])


def words_of(mill, late):
    return list(product(*[range(len(pockets)) for pockets in mill.passes[late:]]))


def numbered(count):
    return [(1, 0)] * count


def levels_in(count):
    """All ways to put the letters up to count into levels."""
    found = set()
    for row in permutations(range(count)):
        for cuts in product((False, True), repeat=max(count - 1, 0)):
            levels = [[letter] for letter in row[:1]]
            for letter, cut in zip(row[1:], cuts):
                if cut:
                    levels.append([letter])
                else:
                    levels[-1].append(letter)
            found.add(tuple(tuple(sorted(level)) for level in levels))
    return sorted(found)


def lists_within(told):
    """All lists of what is told, itself and those within it, each as often as it stands there."""
    found = [told] if isinstance(told, list) else []
    if isinstance(told, (list, tuple)):
        for part in told:
            found.extend(lists_within(part))
    return found


def all_lists_are_own(case, *told):
    lists = lists_within(list(told))
    case.assertEqual(len({id(part) for part in lists}), len(lists))


# With and without passes, single pockets, queues, piles, both, and a mill of 1000 codes.
MILLS = [
    "", "q", "p", "qq", "pp", "qp", "pq", "p p", "p q p", "qp pq", "pq qp pp", "qqq pp",
    "pqp q qp", "q p q p q p", "pppppp qqqqqq", "pqpqp qqppq pppqq qp pp pq",
]
