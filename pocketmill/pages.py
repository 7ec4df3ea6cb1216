"""Pages: a mill, named letters, a wish and prices, read from a text and written as one."""

from pocketmill.errors import BadText
from pocketmill.mills import Mill
from pocketmill.prices import is_price
from pocketmill.trays import look_at_letters
from pocketmill.wishes import GROUP_KINDS, Wish

FIGURES = "0123456789"
SMALL_LETTERS = "abcdefghijklmnopqrstuvwxyz"
MOST_FIGURES = 31
MOST_NAME = 8
POCKET_KINDS = {"q": "queue", "p": "pile"}
POCKET_SIGNS = {"queue": "q", "pile": "p"}


class Page:
    def __init__(self, mill, names, letters, wish, prices):
        self.mill = mill
        self.names = list(names)
        self.letters = list(letters)
        self.wish = wish
        self.prices = [list(numbers) for numbers in prices]


def are_signs(word, signs, most):
    return 1 <= len(word) <= most and all([sign in signs for sign in word])


def written_number(word, most):
    """The number that a word of at most so many figures writes, or None."""
    if not are_signs(word, FIGURES, most):
        return None
    # Each number is written in one way alone.
    if word[0] == "0" and len(word) > 1:
        return None
    return int(word)


def page_number(word):
    return written_number(word, MOST_FIGURES)


def is_name(name):
    return isinstance(name, str) and are_signs(name, SMALL_LETTERS, MOST_NAME)


def words_of(row):
    # Only blanks part words: split without a sign would take other signs for blanks too.
    return [word for word in row.partition("#")[0].split(" ") if len(word) > 0]


def told_rows(text):
    """The rows that say something, pairs of a row's number and its words."""
    rows = [(number, words_of(row)) for number, row in enumerate(text.split("\n"), start=1)]
    return [(number, words) for number, words in rows if len(words) > 0]


def are_numbers(words):
    return all([page_number(word) is not None for word in words])


def is_pocket_word(word):
    return len(word) == 2 and word[0] in POCKET_KINDS and word[1] in FIGURES


def has_form(words):
    """Whether the words are of one of the kinds of rows, other rows left aside."""
    kind = words[0]
    rest = words[1:]
    if kind == "pass":
        return all([is_pocket_word(word) for word in rest])
    if kind == "letter":
        return len(rest) == 3 and is_name(rest[0]) and are_numbers(rest[1:])
    if kind == "price":
        return len(rest) > 0 and are_numbers(rest)
    # A word that is no name is none of a letter's either, so it is seen with the letters' names.
    return kind in GROUP_KINDS and len(rest) > 0


def of_kind(rows, kind):
    """What stands behind the first words of the rows that have a kind's form."""
    return [words[1:] for number, words in rows if words[0] == kind and has_form(words)]


def are_prices_of(passes, words):
    number = page_number(words[0])
    if number >= len(passes) or len(words) - 1 != len(passes[number]):
        return False
    return all([is_price(page_number(word)) for word in words[1:]])


def goes_with(words, passes, names):
    """Whether a row that has its form goes with the passes and the letters' names of its page."""
    if words[0] == "price":
        return are_prices_of(passes, words[1:])
    if words[0] in GROUP_KINDS:
        return all([name in names for name in words[1:]])
    return True


def look_at_rows(rows):
    passes = of_kind(rows, "pass")
    names = [words[0] for words in of_kind(rows, "letter")]
    # A letter's name and a price row's pass may each stand once; both are the second words of their rows.
    once = []
    for number, words in rows:
        if not has_form(words) or words[:2] in once or not goes_with(words, passes, names):
            raise BadText(number)
        if words[0] in ("letter", "price"):
            once.append(words[:2])


def read_mill(rows):
    passes = []
    for words in of_kind(rows, "pass"):
        passes.append([(POCKET_KINDS[word[0]], int(word[1])) for word in words])
    return Mill(passes)


def read_groups(rows, names):
    groups = []
    for number, words in rows:
        if words[0] in GROUP_KINDS:
            groups.append((words[0], [names.index(name) for name in words[1:]]))
    return groups


def no_prices(mill):
    return [[0] * len(pockets) for pockets in mill.passes]


def read_prices(rows, mill):
    prices = no_prices(mill)
    for words in of_kind(rows, "price"):
        prices[page_number(words[0])] = [page_number(word) for word in words[1:]]
    return prices


def read_page(text):
    rows = told_rows(text)
    look_at_rows(rows)
    mill = read_mill(rows)
    names = [words[0] for words in of_kind(rows, "letter")]
    letters = [(page_number(words[1]), page_number(words[2])) for words in of_kind(rows, "letter")]
    look_at_letters(mill, letters)
    wish = Wish(letters, read_groups(rows, names))
    return Page(mill, names, letters, wish, read_prices(rows, mill))


def row_text(first, words):
    return " ".join([first] + words)


def numbers_text(first, numbers):
    return row_text(first, [str(number) for number in numbers])


def pass_text(pockets):
    return row_text("pass", [POCKET_SIGNS[kind] + str(width) for kind, width in pockets])


def names_text(first, names, letters):
    return row_text(first, [names[letter] for letter in letters])


def page_text(page):
    rows = [pass_text(pockets) for pockets in page.mill.passes]
    for name, letter in zip(page.names, page.letters):
        rows.append(numbers_text(f"letter {name}", letter))
    for kind, members in page.wish.groups:
        rows.append(names_text(kind, page.names, members))
    for number, numbers in enumerate(page.prices):
        if max(numbers) > 0:
            rows.append(numbers_text(f"price {number}", numbers))
    return "\n".join(rows)
