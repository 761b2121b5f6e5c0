"""The places of a plot's charges, in order: each a pair, the charge's entry and how much of it."""


def all_of(places, charge):
    return sum([place[1] for place in places if place[0] == charge])


def without(places, charge):
    return [place for place in places if place[0] != charge]


def stands_first(places, one, other):
    for place in places:
        if place[0] == one:
            return True
        if place[0] == other:
            return False
    return False


# Places are never joined, though neighbours may be of one charge: each stays as much as before.
def put_ahead(places, one, other):
    filled = []
    left = all_of(places, one)
    for place in places:
        if place[0] != one and place[0] != other:
            filled.append(place)
        else:
            part = min(left, place[1])
            filled.extend(shared_place(one, part, other, place[1] - part))
            left -= part
    return filled


def shared_place(one, part, other, rest):
    return [place for place in [(one, part), (other, rest)] if place[1] > 0]


# What each charge gets from a sale, in the order of their first places; one that was not truly given gets nothing, and
# what would have been its part goes to those behind it.
def shares(places, given, amount):
    parts = {}
    left = amount
    for place in places:
        part = min(left, place[1]) if place[0] in given else 0
        parts[place[0]] = parts.get(place[0], 0) + part
        left -= part
    return parts
