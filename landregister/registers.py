"""The way in: a list of calls on a new register, and the list of their answers."""

from landregister.books import NOT_SOUND, Book
from landregister.entries import (
    MOST_AMOUNT, Ahead, Charge, Correct, Fulfil, Notice, Objection, Strike, Transfer, Void)
from landregister.questions import tell_charges, tell_days, tell_owner, tell_rely, tell_sale, tell_stands

BEGINS = 0
TRANSFER = 1
CHARGE = 2
NOTICE = 3
FULFIL = 4
OBJECTION = 5
STRIKE = 6
AHEAD = 7
CORRECT = 8
VOID = 9
OWNER = 10
CHARGES = 11
RELY = 12
SALE = 13
STANDS = 14
DAYS = 15

# How long each call is, its number among it; of begins without its owners, since how many they are is handed in.
LENGTHS = (3, 6, 7, 6, 4, 4, 4, 4, 3, 3, 4, 4, 4, 5, 3, 3)


def answers(calls):
    book = Book()
    answered = []
    start = 0
    while start < len(calls):
        end = start + call_length(calls, start)
        numbers = answer(book, calls[start:end])
        answered.append(len(numbers))
        answered.extend(numbers)
        start = end
    return answered


def call_length(calls, start):
    kind = calls[start]
    if kind == BEGINS:
        return LENGTHS[BEGINS] + calls[start + 2]
    return LENGTHS[kind]


def answer(book, call):
    if call[0] == BEGINS:
        return [book.begin(call[1], call[3:])]
    if call[0] <= VOID:
        return [book.make(entry_of(call))]
    if not is_sound_question(book, call):
        return [NOT_SOUND]
    return told(book, call)


def entry_of(call):
    kind = call[0]
    if kind == TRANSFER:
        return Transfer(call[1], call[2], call[3], call[4], call[5])
    if kind == CHARGE:
        return Charge(call[1], call[2], call[3], call[4], call[5], call[6])
    if kind == NOTICE:
        return Notice(call[1], call[2], call[3], call[4], call[5])
    if kind == FULFIL:
        return Fulfil(call[1], call[2], call[3])
    if kind == OBJECTION:
        return Objection(call[1], call[2], call[3])
    if kind == STRIKE:
        return Strike(call[1], call[2], call[3])
    if kind == AHEAD:
        return Ahead(call[1], call[2], call[3])
    if kind == CORRECT:
        return Correct(call[1], call[2])
    return Void(call[1], call[2])


def is_sound_question(book, call):
    return book.has_plot(call[1]) and (call[0] != SALE or call[4] <= MOST_AMOUNT)


def told(book, call):
    kind = call[0]
    if kind == DAYS:
        return tell_days(book, call[1], call[2])
    if kind == STANDS:
        # What stands does not hang on what is known.
        return tell_stands(book.sheet_on(call[1], call[2], call[2]))
    sheet = book.sheet_on(call[1], call[2], call[3])
    if kind == OWNER:
        return tell_owner(sheet)
    if kind == CHARGES:
        return tell_charges(sheet)
    if kind == RELY:
        return tell_rely(sheet)
    return tell_sale(sheet, call[4])
