"""Calls as they are handed in, and their answers taken apart again."""

from landregister.books import Book
from landregister.registers import answer, answers

HIGHEST = 4294967295
LAST_DAY = 1000000


def begins(persons, owners):
    return [0, persons, len(owners)] + owners


def transfer(day, plot, giver, receiver, knows=0):
    return [1, day, plot, giver, receiver, knows]


def charge(day, plot, giver, creditor, amount, knows=0):
    return [2, day, plot, giver, creditor, amount, knows]


def notice(day, plot, giver, person, knows=0):
    return [3, day, plot, giver, person, knows]


def fulfil(day, noted, knows=0):
    return [4, day, noted, knows]


def objection(day, plot, person):
    return [5, day, plot, person]


def strike(day, entry, striker):
    return [6, day, entry, striker]


def ahead(day, one, other):
    return [7, day, one, other]


def correct(day, plot):
    return [8, day, plot]


def void(day, entry):
    return [9, day, entry]


def owner(plot, day, known):
    return [10, plot, day, known]


def charges(plot, day, known):
    return [11, plot, day, known]


def rely(plot, day, known):
    return [12, plot, day, known]


def sale(plot, day, known, amount):
    return [13, plot, day, known, amount]


def stands(plot, day):
    return [14, plot, day]


def days(plot, known):
    return [15, plot, known]


def handed_in(*calls):
    return [number for call in calls for number in call]


def told(*calls):
    """Each call's answer, as the list of its numbers."""
    given = answers(handed_in(*calls))
    parts = []
    while given:
        parts.append(given[1:1 + given[0]])
        given = given[1 + given[0]:]
    if len(parts) != len(calls):
        raise AssertionError(f"not one answer for each call: {parts}")
    return parts


def ask(*calls):
    """Each call's answer, as a number, of calls that all answer one number."""
    parts = told(*calls)
    if [len(part) for part in parts] != [1] * len(calls):
        raise AssertionError(f"not one number for each call: {parts}")
    return [part[0] for part in parts]


def last(*calls):
    return ask(*calls)[-1]


def last_told(*calls):
    """The last call's answer, as its first number and the lists behind it."""
    numbers = told(*calls)[-1]
    first = numbers[0]
    numbers = numbers[1:]
    rows = []
    while numbers:
        rows.append(numbers[1:1 + numbers[0]])
        if len(rows[-1]) != numbers[0]:
            raise AssertionError(f"a list is shorter than told: {numbers}")
        numbers = numbers[1 + numbers[0]:]
    return first, rows


def owner_behind(calls, day, known, plot=0):
    """Who is registered, and who truly owns the plot."""
    first, rows = last_told(*calls, owner(plot, day, known))
    if first != 0 or len(rows) != 1:
        raise AssertionError(f"not 0 and one list: {first} {rows}")
    return rows[0]


def given_behind(calls, day, known, plot=0):
    """Of each charge of the plot that has a place, whether it was truly given."""
    return {row[0]: row[3] for row in last_told(*calls, charges(plot, day, known))[1]}


def book_behind(*calls):
    book = Book()
    for call in calls:
        answer(book, call)
    return book


def sheets_behind(*calls):
    book = book_behind(*calls)
    return [book.sheet_on(plot, LAST_DAY, LAST_DAY) for plot in range(len(book.owners))]


def places_behind(plot, *calls):
    return sheets_behind(*calls)[plot].places


def standing_behind(plot, *calls):
    return list(sheets_behind(*calls)[plot].standing)
