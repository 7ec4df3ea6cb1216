"""Chains of letters by which anyone sees that no plan brings a wish about, and plans looked at likewise."""

from pocketmill.least import next_place
from pocketmill.trays import end_row, look_at_letters


def chain_places(mill, letters, chain):
    look_at_letters(mill, letters)
    places = []
    place = None
    for letter in chain:
        place = next_place(mill, letters, letter, place)
        places.append(place)
        # From None one would begin anew, so nothing is told behind it.
        if place is None:
            break
    return places


def is_chain(wish, chain):
    return len(chain) > 0 and all([wish.behind(one, ahead) for ahead, one in zip(chain, chain[1:])])


def bars(mill, letters, wish, chain):
    places = chain_places(mill, letters, chain)
    return is_chain(wish, chain) and len(places) == len(chain) and places[-1] is None


def does(mill, letters, wish, plan):
    return wish.kept_by(end_row(mill, letters, plan))
