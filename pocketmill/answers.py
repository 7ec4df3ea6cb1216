"""Answers to pages: written, read, and looked at for faults."""

from pocketmill.chains import bars
from pocketmill.errors import BadText
from pocketmill.least import least_plan
from pocketmill.pages import names_text, numbers_text, page_number, read_page, written_number
from pocketmill.prices import cheapest, cost_of, least_table, look_at_order, table_cost
from pocketmill.trays import end_row, is_word_for

MOST_COST_FIGURES = 40


def plan_text(page, first, plan):
    rows = [first]
    rows.extend([numbers_text(name, word) for name, word in zip(page.names, plan)])
    rows.append(names_text("end", page.names, end_row(page.mill, page.letters, plan)))
    return "\n".join(rows)


def answered(text):
    page = read_page(text)
    told = least_plan(page.mill, page.letters, page.wish)
    if told[0] == "chain":
        return names_text("chain", page.names, told[1])
    return plan_text(page, "plan", told[1])


def priced(text):
    page = read_page(text)
    told = cheapest(page.mill, page.letters, page.wish, page.prices)
    if told[0] == "chain":
        return names_text("chain", page.names, told[1])
    return plan_text(page, numbers_text("cost", [told[1]]), told[2])


def cost_number(word):
    return written_number(word, MOST_COST_FIGURES)


def is_chain_row(names, words):
    return words[0] == "chain" and len(words) > 1 and all([name in names for name in words[1:]])


def is_first_row(words):
    return words == ["plan"] or (len(words) == 2 and words[0] == "cost" and cost_number(words[1]) is not None)


def is_letter_row(name, words):
    return words[0] == name and all([page_number(word) is not None for word in words[1:]])


def is_end_row(names, words):
    return words[0] == "end" and sorted(words[1:]) == sorted(names)


def is_plan_row(names, number, words):
    """Whether the words can be row number, counted from 0, of an answer that tells a plan."""
    if number == 0:
        return is_first_row(words)
    # What a row is goes by its number alone: a letter may be called like the first word of another row.
    if number <= len(names):
        return is_letter_row(names[number - 1], words)
    return number == len(names) + 1 and is_end_row(names, words)


def look_at_plan_rows(names, rows):
    for number, words in enumerate(rows):
        if not is_plan_row(names, number, words):
            raise BadText(number + 1)
    if len(rows) < len(names) + 2:
        raise BadText(len(rows) + 1)


def numbers_in(words):
    return tuple([page_number(word) for word in words])


def letters_named(names, words):
    return [names.index(name) for name in words]


def read_answer(page, text):
    rows = [row.split(" ") for row in text.split("\n")]
    if is_chain_row(page.names, rows[0]):
        if len(rows) > 1:
            raise BadText(2)
        return ("chain", letters_named(page.names, rows[0][1:]))
    look_at_plan_rows(page.names, rows)
    plan = [numbers_in(words[1:]) for words in rows[1:-1]]
    end = letters_named(page.names, rows[-1][1:])
    if rows[0][0] == "plan":
        return ("plan", plan, end)
    return ("cost", cost_number(rows[0][1]), plan, end)


def chain_faults(page, chain):
    return [] if bars(page.mill, page.letters, page.wish, chain) else [("chain",)]


def word_faults(page, plan):
    faults = []
    for name, letter, word in zip(page.names, page.letters, plan):
        if not is_word_for(page.mill, letter, word):
            faults.append(("word", name))
    return faults


def end_faults(page, plan, end):
    row = end_row(page.mill, page.letters, plan)
    faults = [] if end == row else [("end",)]
    breach = page.wish.breach(row)
    if breach is not None:
        faults.append(("wish", page.names[breach[0]], page.names[breach[1]]))
    return faults


def is_least_cost(page, plan, cost):
    least = table_cost(least_table(page.mill, page.letters, page.wish, page.prices))
    # Where no plan brings the wish about none is cheaper, and the plan's own cost is all there is to look at.
    return cost == cost_of(page.mill, page.letters, plan, page.prices) and (least is None or least >= cost)


def looked(text, answer):
    page = read_page(text)
    told = read_answer(page, answer)
    if told[0] == "chain":
        return chain_faults(page, told[1])
    if told[0] == "cost":
        look_at_order(page.wish)
    plan = told[-2]
    faults = word_faults(page, plan)
    if len(faults) > 0:
        return faults
    faults = end_faults(page, plan, told[-1])
    if told[0] == "cost" and not is_least_cost(page, plan, told[1]):
        faults.append(("cost",))
    return faults
