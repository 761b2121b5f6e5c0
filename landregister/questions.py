"""What is asked of a register: each answer is a number, then lists, each as how many numbers it has, then they."""

from landregister.entries import Charge, Notice
from landregister.ranks import shares


def with_lists(number, rows):
    told = [number]
    for row in rows:
        told.append(len(row))
        told.extend(row)
    return told


def tell_owner(sheet):
    return with_lists(0, [[sheet.registered, sheet.owner]])


def tell_charges(sheet):
    rows = [place_row(sheet, place[0], place[1]) for place in sheet.places]
    return with_lists(len(rows), rows)


def place_row(sheet, charge, amount):
    return [charge, sheet.standing[charge].person, amount, 1 if charge in sheet.given else 0]


def tell_rely(sheet):
    return [1 if sheet.acquires(0) else 0]


def tell_sale(sheet, amount):
    parts = shares(sheet.places, sheet.given, amount)
    rows = [[charge, sheet.standing[charge].person, parts[charge]] for charge in parts]
    return with_lists(amount - sum(parts.values()), rows)


# Entries come to stand in their order, and a dict keeps it.
def tell_stands(sheet):
    rows = []
    for number, entry in sheet.standing.items():
        if not isinstance(entry, Charge):
            rows.append([number, 1 if isinstance(entry, Notice) else 0, entry.person])
    return with_lists(len(rows), rows)


# A day that comes again tells the same again, so it is left out with the days on which nothing changed.
def tell_days(book, plot, known):
    rows = []
    for day in [0] + [entry.day for entry in book.entries]:
        sheet = book.sheet_on(plot, day, known)
        persons = [sheet.registered, sheet.owner]
        if len(rows) == 0 or rows[-1][1:] != persons:
            rows.append([day] + persons)
    return with_lists(len(rows), rows)
