"""Calls as they are handed in, and their answers taken apart again."""

from landregister.books import Book
from landregister.registers import answer, answers

HIGHEST = 4294967295


def begins(persons, owners):
    return [0, persons, len(owners)] + owners


def transfer(day, plot, giver, receiver, knows=0):
    return [1, day, plot, giver, receiver, knows]


def charge(day, plot, giver, creditor, amount, knows=0):
    return [2, day, plot, giver, creditor, amount, knows]


def notice(day, plot, giver, person, knows=0):
    return [3, day, plot, giver, person, knows]


def fulfil(day, noted, knows=0):
    return [4, day, noted, knows]


def objection(day, plot, person):
    return [5, day, plot, person]


def strike(day, entry, striker):
    return [6, day, entry, striker]


def ahead(day, one, other):
    return [7, day, one, other]


def ask(*calls):
    """Each call's answer, as a number; all calls of this helper answer one number."""
    given = answers([number for call in calls for number in call])
    if given[::2] != [1] * len(calls):
        raise AssertionError(f"not one number for each call: {given}")
    return given[1::2]


def last(*calls):
    return ask(*calls)[-1]


def book_behind(*calls):
    book = Book()
    for call in calls:
        answer(book, call)
    return book


def places_behind(plot, *calls):
    return book_behind(*calls).sheets[plot].places


def standing_behind(plot, *calls):
    return list(book_behind(*calls).sheets[plot].standing)
