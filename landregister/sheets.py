"""One plot: who is registered, which entries stand, the charges' places, and what is true of them."""

from landregister.entries import Objection
from landregister.ranks import without


class Sheet:
    # void: the numbers of the entries that are known to be void, each with True.
    def __init__(self, owner, void):
        self.registered = owner
        self.owner = owner
        self.void = void
        self.standing = {}
        self.places = []
        self.given = {}

    # What is true hangs on the register just ahead of the entry, so that is told first. The register itself stays as
    # it is when an entry turns out to be void.
    def go_through(self, number, entry):
        if number not in self.void:
            entry.take_effect(number, self)
        entry.enter(number, self)

    def acquires(self, knows):
        return self.registered == self.owner or (knows == 0 and not self.has_objection())

    def has_objection(self):
        return any([isinstance(entry, Objection) for entry in self.standing.values()])

    def stand(self, number, entry):
        self.standing[number] = entry

    def drop(self, number):
        self.standing.pop(number)
        self.places = without(self.places, number)
