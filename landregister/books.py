"""The book: persons, plots and the entries made so far, which entries it refuses, and the sheets that they make."""

from landregister.entries import Void
from landregister.sheets import Sheet

MOST_PERSONS = 10
MOST_PLOTS = 6
LAST_DAY = 1000000
MOST_ENTRIES = 40

NOT_SOUND = -1
NOT_FOUND = -2
TOO_EARLY = -4
FULL = -5
NOT_ALLOWED = -6


class Book:
    def __init__(self):
        self.persons = 1
        self.owners = [0]
        self.entries = []

    def begin(self, persons, owners):
        if not 1 <= persons <= MOST_PERSONS or not 1 <= len(owners) <= MOST_PLOTS:
            return NOT_SOUND
        if any([owner >= persons for owner in owners]):
            return NOT_SOUND
        self.persons = persons
        self.owners = list(owners)
        self.entries = []
        return 0

    def make(self, entry):
        refused = self.refusal(entry)
        if refused != 0:
            return refused
        entry.settle(self.sheet_of(entry))
        self.entries.append(entry)
        return len(self.entries) - 1

    # The order is the promise's: where several refusals are due, the one told first is answered.
    def refusal(self, entry):
        if entry.day > LAST_DAY or not entry.is_sound(self.persons, len(self.owners)):
            return NOT_SOUND
        if not entry.finds_its_entries(self.entries):
            return NOT_FOUND
        # Days never fall from entry to entry, so the last entry has the latest one.
        if len(self.entries) > 0 and self.entries[-1].day > entry.day:
            return TOO_EARLY
        if not entry.may_be_made(self.sheet_of(entry)):
            return NOT_ALLOWED
        if len(self.entries) >= MOST_ENTRIES:
            return FULL
        return 0

    # No entry is on a later day than the last, so this is the sheet as it is now.
    def sheet_of(self, entry):
        return self.sheet_on(entry.plot_among(self.entries), LAST_DAY, LAST_DAY)

    def has_plot(self, plot):
        return plot < len(self.owners)

    # A sheet is made anew each time, since what is true changes with what is known.
    def sheet_on(self, plot, day, known):
        sheet = Sheet(self.owners[plot], self.void_as_known(known))
        for number, entry in enumerate(self.entries):
            if entry.day <= day and entry.plot_among(self.entries) == plot:
                sheet.go_through(number, entry)
        return sheet

    def void_as_known(self, known):
        void = {}
        for entry in self.entries:
            if isinstance(entry, Void) and entry.day <= known:
                void[entry.voided] = True
        return void
