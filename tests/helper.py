"""What several tests use: sample mills, and a check for refusals."""

from itertools import product

from pocketmill.mills import Mill


def refuses(case, wanted, function, *handed):
    with case.assertRaises(wanted) as caught:
        function(*handed)
    case.assertIs(type(caught.exception), wanted)


def queues(many, width=9):
    return [("queue", width)] * many


def piles(many, width=9):
    return [("pile", width)] * many


def mill_of(text):
    """A mill of width 9: "qp q" has a pass with a queue and a pile, and one with a queue."""
    kinds = {"q": "queue", "p": "pile"}
    return Mill([[(kinds[sign], 9) for sign in signs] for signs in text.split()])


def words_of(mill, late):
    return list(product(*[range(len(pockets)) for pockets in mill.passes[late:]]))


# With and without passes, single pockets, queues, piles, both, and a mill of 1000 codes.
MILLS = [
    "", "q", "p", "qq", "pp", "qp", "pq", "p p", "p q p", "qp pq", "pq qp pp", "qqq pp",
    "pqp q qp", "q p q p q p", "pppppp qqqqqq", "pqpqp qqppq pppqq qp pp pq",
]
