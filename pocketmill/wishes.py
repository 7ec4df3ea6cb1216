"""Wishes: which letters are to stand behind which others at the end."""

from pocketmill.errors import BadWish
from pocketmill.mills import is_within

GROUP_KINDS = ("any", "come", "row")


def is_group(group, many):
    if not isinstance(group, tuple) or len(group) != 2 or group[0] not in GROUP_KINDS:
        return False
    if not isinstance(group[1], (list, tuple)) or len(group[1]) == 0:
        return False
    return all([is_within(letter, 0, many - 1) for letter in group[1]])


def grouped_letters(groups):
    found = []
    for kind, members in groups:
        found.extend(members)
    return found


def are_groups(groups, many):
    if not isinstance(groups, (list, tuple)) or not all([is_group(group, many) for group in groups]):
        return False
    return sorted(grouped_letters(groups)) == list(range(many))


def as_they_come(letters, members):
    return sorted(members, key=lambda letter: (letters[letter][1], letter))


def group_levels(letters, kind, members):
    if kind == "any":
        return [sorted(members)]
    ordered = members if kind == "row" else as_they_come(letters, members)
    return [[letter] for letter in ordered]


def levels_of(letters, groups):
    found = []
    for kind, members in groups:
        found.extend(group_levels(letters, kind, members))
    return found


def numbers_of(levels):
    found = {}
    for number, level in enumerate(levels):
        for letter in level:
            found[letter] = number
    return found


class Wish:
    def __init__(self, letters, groups):
        if not are_groups(groups, len(letters)):
            raise BadWish("a wish has each letter in one group, once, and groups of the kinds any, come and row")
        self.groups = [(kind, list(members)) for kind, members in groups]
        self.level_letters = levels_of(letters, groups)
        self.level_numbers = numbers_of(self.level_letters)

    def levels(self):
        return [list(level) for level in self.level_letters]

    def level_of(self, letter):
        return self.level_numbers[letter]

    def behind(self, one, other):
        return self.level_of(one) > self.level_of(other)

    def breach(self, row):
        # Where no letter is wished behind its next neighbour the levels never fall, so neighbours are enough.
        for one, other in zip(row, row[1:]):
            if self.behind(one, other):
                return (one, other)
        return None

    def kept_by(self, row):
        return self.breach(row) is None

    def one_order(self):
        return all([len(level) == 1 for level in self.level_letters])
