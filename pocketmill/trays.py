"""Letters, plans, and the rows that a plan leads the letters through."""

from pocketmill.errors import BadLetters, BadPlan
from pocketmill.mills import face, fits, is_late, is_size, is_word, word_code

MOST_LETTERS = 24


def is_letter(mill, letter):
    if not isinstance(letter, tuple) or len(letter) != 2:
        return False
    return is_size(letter[0]) and is_late(mill, letter[1])


def look_at_letters(mill, letters):
    if not isinstance(letters, (list, tuple)) or len(letters) > MOST_LETTERS:
        raise BadLetters("letters are a list of at most 24 pairs")
    if not all([is_letter(mill, letter) for letter in letters]):
        raise BadLetters("a letter has a size from 1 to 9 and joins at one of the passes or behind them")


def is_word_for(mill, letter, word):
    return is_word(mill, letter[1], word) and fits(mill, letter[1], word, letter[0])


def look_at_plan(mill, letters, plan):
    look_at_letters(mill, letters)
    if not isinstance(plan, (list, tuple)) or len(plan) != len(letters):
        raise BadPlan("a plan is a list with one word for each letter")
    if not all([is_word_for(mill, letter, word) for letter, word in zip(letters, plan)]):
        raise BadPlan("a word of the plan is none of its letter, or does not fit it")


def joining(letters, late):
    return [number for number, letter in enumerate(letters) if letter[1] == late]


def filled(letters, plan, step, pockets, row):
    heaps = [[] for pocket in pockets]
    for letter in row:
        # A word begins with the pass ahead of which its letter joins.
        heaps[plan[letter][step - letters[letter][1]]].append(letter)
    return heaps


def emptied(pockets, heaps):
    row = []
    for pocket, heap in zip(pockets, heaps):
        row.extend(heap if pocket[0] == "queue" else list(reversed(heap)))
    return row


def trays(mill, letters, plan):
    look_at_plan(mill, letters, plan)
    row = joining(letters, 0)
    rows = [row]
    for step, pockets in enumerate(mill.passes):
        row = emptied(pockets, filled(letters, plan, step, pockets, row)) + joining(letters, step + 1)
        rows.append(row)
    return rows


def end_row(mill, letters, plan):
    return trays(mill, letters, plan)[-1]


def rank_of(letters, letter):
    return letter + len(letters) * letters[letter][1]


def place_of(mill, letters, plan, letter):
    look_at_plan(mill, letters, plan)
    late = letters[letter][1]
    return (word_code(mill, late, plan[letter]), face(mill, late, plan[letter]) * rank_of(letters, letter))
