"""The desk: letters are put, taken, grouped and ordered deed by deed, and deeds are taken back."""

from pocketmill.errors import BadDeed
from pocketmill.least import least_plan
from pocketmill.mills import Mill, is_late, is_size
from pocketmill.pages import Page, is_name, no_prices, page_text
from pocketmill.trays import MOST_LETTERS
from pocketmill.wishes import GROUP_KINDS, Wish


def others(members, name):
    return [member for member in members if member != name]


def without(groups, name):
    left = [(kind, others(members, name)) for kind, members in groups]
    return [group for group in left if len(group[1]) > 0]


def following(groups, name, other):
    found = []
    for kind, members in without(groups, name):
        found.append((kind, members))
        if other in members:
            found.append(("any", [name]))
    return found


def sharing(groups, name, other):
    left = without(groups, name)
    return [(kind, members + [name] if other in members else members) for kind, members in left]


def ordered(groups, name, wanted):
    return [(wanted if name in members else kind, members) for kind, members in groups]


class Desk:
    # Lists that the desk has are never changed, only put aside for others: so the past can keep them as they are.
    def __init__(self, passes):
        self.mill = Mill(passes)
        self.names = []
        self.letters = []
        self.groups = []
        self.past = []

    def look_at_names(self, names):
        if not all([name in self.names for name in names]):
            raise BadDeed("no letter is called so")
        if len(set(names)) < len(names):
            raise BadDeed("both names are the same")

    def go_on(self, names, letters, groups):
        self.past.append((self.names, self.letters, self.groups))
        self.names = names
        self.letters = letters
        self.groups = groups

    def put(self, name, size, late):
        if not is_name(name) or name in self.names:
            raise BadDeed("a new letter's name has 1 to 8 small letters and is not there yet")
        if not is_size(size) or not is_late(self.mill, late):
            raise BadDeed("the mill can't take a letter of this size or so late")
        if len(self.names) == MOST_LETTERS:
            raise BadDeed("there are 24 letters already")
        self.go_on(self.names + [name], self.letters + [(size, late)], self.groups + [("any", [name])])

    def take(self, name):
        self.look_at_names([name])
        place = self.names.index(name)
        letters = self.letters[:place] + self.letters[place + 1:]
        self.go_on(others(self.names, name), letters, without(self.groups, name))

    def follow(self, name, other):
        self.look_at_names([name, other])
        self.go_on(self.names, self.letters, following(self.groups, name, other))

    def share(self, name, other):
        self.look_at_names([name, other])
        self.go_on(self.names, self.letters, sharing(self.groups, name, other))

    def order(self, name, kind):
        self.look_at_names([name])
        if kind not in GROUP_KINDS:
            raise BadDeed("a group is of the kind any, come or row")
        self.go_on(self.names, self.letters, ordered(self.groups, name, kind))

    def undo(self):
        if len(self.past) == 0:
            raise BadDeed("no deed is left to take back")
        before = self.past.pop()
        self.names = before[0]
        self.letters = before[1]
        self.groups = before[2]

    def names_told(self):
        return list(self.names)

    def letters_told(self):
        return list(self.letters)

    def groups_told(self):
        return [(kind, list(members)) for kind, members in self.groups]

    def numbers(self, members):
        return [self.names.index(name) for name in members]

    def wished(self):
        return Wish(self.letters, [(kind, self.numbers(members)) for kind, members in self.groups])

    def answer(self):
        told = least_plan(self.mill, self.letters, self.wished())
        if told[0] == "chain":
            return ("chain", [self.names[letter] for letter in told[1]])
        return ("plan", list(zip(self.names, told[1])))

    def deeds(self):
        return len(self.past)

    def text(self):
        return page_text(Page(self.mill, self.names, self.letters, self.wished(), no_prices(self.mill)))
