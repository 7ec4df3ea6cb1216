"""What plans cost, and the cheapest plan that brings a wish in one order about, with a table that shows it."""

from pocketmill.errors import BadPrices, NotOneOrder
from pocketmill.least import least_plan, open_places
from pocketmill.mills import code_word, is_within
from pocketmill.trays import look_at_letters, look_at_plan


def is_price(value):
    return is_within(value, 0, 10 ** 30)


def are_pass_prices(pockets, numbers):
    if not isinstance(numbers, (list, tuple)) or len(numbers) != len(pockets):
        return False
    return all([is_price(number) for number in numbers])


def look_at_prices(mill, prices):
    if not isinstance(prices, (list, tuple)) or len(prices) != mill.many():
        raise BadPrices("prices are a list with one list for each pass")
    if not all([are_pass_prices(pockets, numbers) for pockets, numbers in zip(mill.passes, prices)]):
        raise BadPrices("the prices of a pass are a list with a number from 0 to 10 ** 30 for each of its pockets")


def look_at_order(wish):
    if not wish.one_order():
        raise NotOneOrder("a level of the wish has two letters or more")


def word_cost(prices, late, word):
    return sum([numbers[pocket] for pocket, numbers in zip(word, prices[late:])])


def cost_of(mill, letters, plan, prices):
    look_at_plan(mill, letters, plan)
    look_at_prices(mill, prices)
    return sum([word_cost(prices, letter[1], word) for letter, word in zip(letters, plan)])


def order_of(wish):
    return [level[0] for level in wish.levels()]


def place_word(mill, letters, letter, place):
    return code_word(mill, letters[letter][1], place[0])


def place_cost(mill, letters, letter, prices, place):
    return word_cost(prices, letters[letter][1], place_word(mill, letters, letter, place))


def places_and_costs(mill, letters, letter, prices):
    places = open_places(mill, letters, letter)
    return [(place, place_cost(mill, letters, letter, prices, place)) for place in places]


def row_behind(ahead, costs):
    row = []
    passed = 0
    least = None
    for place, cost in costs:
        # Both rise, so what was passed once stays at lesser places.
        while passed < len(ahead) and ahead[passed][0] < place:
            least = ahead[passed][1] if least is None else min(least, ahead[passed][1])
            passed = passed + 1
        if least is not None:
            row.append((place, least + cost))
    return row


def least_table(mill, letters, wish, prices):
    look_at_letters(mill, letters)
    look_at_order(wish)
    look_at_prices(mill, prices)
    table = []
    for letter in order_of(wish):
        costs = places_and_costs(mill, letters, letter, prices)
        table.append(costs if len(table) == 0 else row_behind(table[-1], costs))
    return table


def table_cost(table):
    """The cost that a least table shows, or None where it shows that there is no plan."""
    if len(table) == 0:
        return 0
    return min([least for place, least in table[-1]], default=None)


def pairs_ahead(row, limit):
    return [pair for pair in row if limit is None or pair[0] < limit]


def table_plan(mill, letters, wish, table):
    plan = [() for letter in letters]
    limit = None
    # From the last letter back: what a letter may cost with those ahead is known only for the place of the one behind.
    for letter, row in reversed(list(zip(order_of(wish), table))):
        limit = min(pairs_ahead(row, limit), key=lambda pair: pair[1])[0]
        plan[letter] = place_word(mill, letters, letter, limit)
    return plan


def cheapest(mill, letters, wish, prices):
    table = least_table(mill, letters, wish, prices)
    cost = table_cost(table)
    if cost is None:
        return least_plan(mill, letters, wish)
    return ("plan", cost, table_plan(mill, letters, wish, table), table)


def table_shows(mill, letters, wish, prices, cost, table):
    shown = least_table(mill, letters, wish, prices)
    least = table_cost(shown)
    return least is not None and cost == least and table == shown
