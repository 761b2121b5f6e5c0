"""The book: persons, plots and the entries made so far, and which entries it refuses."""

from landregister.sheets import Sheet

MOST_PERSONS = 10
MOST_PLOTS = 6
LAST_DAY = 1000000
MOST_ENTRIES = 40

NOT_SOUND = -1
NOT_FOUND = -2
TOO_EARLY = -4
FULL = -5
NOT_ALLOWED = -6


class Book:
    def __init__(self):
        self.persons = 1
        self.sheets = [Sheet(0)]
        self.entries = []

    def begin(self, persons, owners):
        if not 1 <= persons <= MOST_PERSONS or not 1 <= len(owners) <= MOST_PLOTS:
            return NOT_SOUND
        if any([owner >= persons for owner in owners]):
            return NOT_SOUND
        self.persons = persons
        self.sheets = [Sheet(owner) for owner in owners]
        self.entries = []
        return 0

    def make(self, entry):
        refused = self.refusal(entry)
        if refused != 0:
            return refused
        number = len(self.entries)
        entry.enter(number, self.sheet_of(entry))
        self.entries.append(entry)
        return number

    # The order is the promise's: where several refusals are due, the one told first is answered.
    def refusal(self, entry):
        if entry.day > LAST_DAY or not entry.is_sound(self.persons, len(self.sheets)):
            return NOT_SOUND
        if not entry.finds_its_entries(self.entries):
            return NOT_FOUND
        # Days never fall from entry to entry, so the last entry has the latest one.
        if len(self.entries) > 0 and self.entries[-1].day > entry.day:
            return TOO_EARLY
        if not entry.may_be_made(self.sheet_of(entry)):
            return NOT_ALLOWED
        if len(self.entries) >= MOST_ENTRIES:
            return FULL
        return 0

    def sheet_of(self, entry):
        return self.sheets[entry.plot_among(self.entries)]
