"""What plans do alike: their classes, comings that part them, plans behind plans, and plans put into queues."""

from pocketmill.counting import is_row, look_at_widths
from pocketmill.errors import BadPlan, BadRow
from pocketmill.mills import MOST_WIDTH, Mill, code_word, face, word_code
from pocketmill.trays import MOST_LETTERS, emptied, filled, look_at_plan


def letters_of(plan):
    return [(1, 0) for word in plan]


def look_at_words(mill, plan):
    look_at_widths(mill)
    # Looked at ahead of the letters, which would be refused as letters.
    if len(plan) > MOST_LETTERS:
        raise BadPlan("a plan has at most 24 words")
    look_at_plan(mill, letters_of(plan), plan)


def look_at_counts(plan, other):
    if len(plan) != len(other):
        raise BadPlan("the plans have unlike counts of words")


def end_from(mill, plan, coming):
    look_at_words(mill, plan)
    if not is_row(coming) or len(coming) != len(plan):
        raise BadRow("a coming has each letter once")
    row = list(coming)
    for step, pockets in enumerate(mill.passes):
        row = emptied(pockets, filled(letters_of(plan), plan, step, pockets, row))
    return row


def classes(mill, plan):
    look_at_words(mill, plan)
    members = {}
    for letter, word in enumerate(plan):
        members.setdefault(word_code(mill, 0, word), []).append(letter)
    return [(code, members[code], face(mill, 0, plan[members[code][0]])) for code in sorted(members)]


def parting(mill, plan, other_mill, other_plan):
    look_at_words(mill, plan)
    look_at_words(other_mill, other_plan)
    look_at_counts(plan, other_plan)
    rising = list(range(len(plan)))
    # Turning the coming round turns the letters of one class round, and no two of unlike classes: so these two end
    # rows show the classes, their order and their faces, and where they are the same the plans do the same.
    for coming in (rising, list(reversed(rising))):
        if end_from(mill, plan, coming) != end_from(other_mill, other_plan, coming):
            return coming
    return None


def mill_behind(mill, other):
    return Mill(mill.passes + other.passes)


def plan_behind(plan, other):
    look_at_counts(plan, other)
    return [word + further for word, further in zip(plan, other)]


def turns_letters(members, side):
    return side == -1 and len(members) > 1


def into_queues(mill, plan):
    if any([turns_letters(members, side) for code, members, side in classes(mill, plan)]):
        return None
    queues = Mill([[("queue", MOST_WIDTH)] * len(pockets) for pockets in mill.passes])
    # The same codes give the same classes in the same order.
    return (queues, [code_word(queues, 0, word_code(mill, 0, word)) for word in plan])
