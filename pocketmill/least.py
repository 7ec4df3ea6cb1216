"""Open places of letters, and the least plan that brings a wish about, or a chain that bars."""

from pocketmill.mills import code_word, codes_of, laid
from pocketmill.trays import look_at_letters, rank_of


def sides_behind(pockets, size, ahead, sides):
    found = []
    for number, pocket in enumerate(pockets):
        if size <= pocket[1]:
            turn = 1 if pocket[0] == "queue" else -1
            found.extend([(number * ahead + laid(pocket[0], ahead, code), turn * side) for code, side in sides])
    return found


def open_sides(mill, size, late):
    """The pairs (code, face) of the words that fit, by rising codes."""
    # Words that begin alike share their steps: taken one by one, 1000 of them would cost many times as much.
    ahead = codes_of(mill.passes[:late])
    sides = [(ahead - 1, 1)]
    for pockets in mill.passes[late:]:
        sides = sides_behind(pockets, size, ahead, sides)
        ahead = ahead * len(pockets)
    return sorted(sides)


def open_places(mill, letters, letter):
    look_at_letters(mill, letters)
    rank = rank_of(letters, letter)
    # No two words of a letter have one code, so rising codes are rising places.
    return [(code, side * rank) for code, side in open_sides(mill, letters[letter][0], letters[letter][1])]


def next_place(mill, letters, letter, beyond):
    for place in open_places(mill, letters, letter):
        if beyond is None or place > beyond:
            return place
    return None


def least_plan(mill, letters, wish):
    look_at_letters(mill, letters)
    plan = [() for letter in letters]
    beyond = None
    # Of each level the letter with the greatest place: it is what the letters of the next level have to go beyond.
    chain = []
    for level in wish.levels():
        places = [next_place(mill, letters, letter, beyond) for letter in level]
        if None in places:
            return ("chain", chain + [level[places.index(None)]])
        for letter, place in zip(level, places):
            plan[letter] = code_word(mill, letters[letter][1], place[0])
        beyond = max(places)
        chain.append(level[places.index(beyond)])
    return ("plan", plan)
