"""Mills, and the words and codes of the letters that go through them."""

from pocketmill.errors import BadCode, BadLate, BadMill, BadSize, BadWord

KINDS = ("queue", "pile")
MOST_PASSES = 6
MOST_POCKETS = 6
MOST_WIDTH = 9
MOST_CODES = 1000
MOST_SIZE = 9


def is_within(value, least, most):
    # Python takes True and False for whole numbers; here they are none.
    return isinstance(value, int) and not isinstance(value, bool) and least <= value <= most


def is_size(size):
    return is_within(size, 1, MOST_SIZE)


def is_pocket(pocket):
    if not isinstance(pocket, tuple) or len(pocket) != 2:
        return False
    return pocket[0] in KINDS and is_within(pocket[1], 0, MOST_WIDTH)


def is_pass(pockets):
    if not isinstance(pockets, (list, tuple)) or not 1 <= len(pockets) <= MOST_POCKETS:
        return False
    return all([is_pocket(pocket) for pocket in pockets])


def are_passes(passes):
    if not isinstance(passes, (list, tuple)) or len(passes) > MOST_PASSES:
        return False
    return all([is_pass(pockets) for pockets in passes]) and codes_of(passes) <= MOST_CODES


def codes_of(passes):
    product = 1
    for pockets in passes:
        product = product * len(pockets)
    return product


class Mill:
    def __init__(self, passes):
        if not are_passes(passes):
            raise BadMill("the passes are not those of a mill")
        self.passes = tuple([tuple(pockets) for pockets in passes])

    def codes(self):
        return codes_of(self.passes)

    def many(self):
        return len(self.passes)


def is_late(mill, late):
    return is_within(late, 0, mill.many())


def is_word(mill, late, word):
    passes = mill.passes[late:]
    if not isinstance(word, tuple) or len(word) != len(passes):
        return False
    return all([is_within(number, 0, len(pockets) - 1) for number, pockets in zip(word, passes)])


def look_at_late(mill, late):
    if not is_late(mill, late):
        raise BadLate("a letter joins ahead of one of the passes or behind the last one")


def look_at_word(mill, late, word):
    look_at_late(mill, late)
    if not is_word(mill, late, word):
        raise BadWord("a word has a pocket for each pass that is left to the letter")


def pockets_of(mill, late, word):
    return [pockets[number] for number, pockets in zip(word, mill.passes[late:])]


def laid(kind, ahead, code):
    # A pile turns the codes round, so doing this twice brings the code back.
    return code if kind == "queue" else ahead - 1 - code


def word_code(mill, late, word):
    look_at_word(mill, late, word)
    ahead = codes_of(mill.passes[:late])
    code = ahead - 1
    for number, pockets in zip(word, mill.passes[late:]):
        code = number * ahead + laid(pockets[number][0], ahead, code)
        ahead = ahead * len(pockets)
    return code


def code_word(mill, late, code):
    look_at_late(mill, late)
    if not is_within(code, 0, mill.codes() - 1):
        raise BadCode("a code is from 0 on and below the count of codes")
    numbers = []
    ahead = mill.codes()
    left = code
    for pockets in reversed(mill.passes[late:]):
        ahead = ahead // len(pockets)
        number = left // ahead
        left = laid(pockets[number][0], ahead, left - number * ahead)
        numbers.append(number)
    # A letter joins with the greatest code of the passes that it missed; no other one leads to a word.
    if left != ahead - 1:
        return None
    return tuple(reversed(numbers))


def face(mill, late, word):
    look_at_word(mill, late, word)
    piles = [kind for kind, width in pockets_of(mill, late, word) if kind == "pile"]
    return 1 if len(piles) % 2 == 0 else -1


def fits(mill, late, word, size):
    look_at_word(mill, late, word)
    if not is_size(size):
        raise BadSize("a size is from 1 to 9")
    return all([size <= width for kind, width in pockets_of(mill, late, word)])
