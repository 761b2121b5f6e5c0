"""What stands for one plot: who is registered, which entries stand, and the charges' places."""

from landregister.ranks import without


class Sheet:
    def __init__(self, owner):
        self.registered = owner
        self.standing = {}
        self.places = []

    def stand(self, number, entry):
        self.standing[number] = entry

    def drop(self, number):
        self.standing.pop(number)
        self.places = without(self.places, number)
