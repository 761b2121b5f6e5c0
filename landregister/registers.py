"""The way in: a list of calls on a new register, and the list of their answers."""

from landregister.books import Book
from landregister.entries import Ahead, Charge, Fulfil, Notice, Objection, Strike, Transfer

BEGINS = 0
TRANSFER = 1
CHARGE = 2
NOTICE = 3
FULFIL = 4
OBJECTION = 5
STRIKE = 6
AHEAD = 7

# How long each call is, its number among it; of begins without its owners, since how many they are is handed in.
LENGTHS = (3, 6, 7, 6, 4, 4, 4, 4)


def answers(calls):
    book = Book()
    answered = []
    start = 0
    while start < len(calls):
        end = start + call_length(calls, start)
        numbers = answer(book, calls[start:end])
        answered.append(len(numbers))
        answered.extend(numbers)
        start = end
    return answered


def call_length(calls, start):
    kind = calls[start]
    if kind == BEGINS:
        return LENGTHS[BEGINS] + calls[start + 2]
    return LENGTHS[kind]


def answer(book, call):
    if call[0] == BEGINS:
        return [book.begin(call[1], call[3:])]
    return [book.make(entry_of(call))]


def entry_of(call):
    kind = call[0]
    if kind == TRANSFER:
        return Transfer(call[1], call[2], call[3], call[4], call[5])
    if kind == CHARGE:
        return Charge(call[1], call[2], call[3], call[4], call[5], call[6])
    if kind == NOTICE:
        return Notice(call[1], call[2], call[3], call[4], call[5])
    if kind == FULFIL:
        return Fulfil(call[1], call[2], call[3])
    if kind == OBJECTION:
        return Objection(call[1], call[2], call[3])
    if kind == STRIKE:
        return Strike(call[1], call[2], call[3])
    return Ahead(call[1], call[2], call[3])
