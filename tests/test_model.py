"""The program beside a second telling of the document, on many lines of calls that a fixed seed draws."""

import random
import unittest

from tests.calling import (
    ahead, begins, charge, charges, correct, days, fulfil, notice, objection, owner, rely, sale, stands, strike, told,
    transfer, void)

TRANSFER, CHARGE, NOTICE, FULFIL, OBJECTION, STRIKE, AHEAD, CORRECT, VOID = range(1, 10)
LINES = 1000


class Model:
    """Keeps what the register was ahead of each entry, and tells what is true backwards, from the last entry."""

    def __init__(self):
        self.begin(1, [0])

    def begin(self, persons, owners):
        self.persons, self.owners = persons, owners
        self.entries = []
        self.shown = [[(person, (), ()) for person in owners]]
        self.found = {}

    def plot_of(self, call):
        if call[0] in (TRANSFER, CHARGE, NOTICE, OBJECTION, CORRECT):
            return call[2]
        return self.plot_of(self.entries[call[2]])

    def person_of(self, number):
        call = self.entries[number]
        return call[3] if call[0] == OBJECTION else call[4]

    def sorts(self, *numbers):
        return [self.entries[number][0] if number < len(self.entries) else None for number in numbers]

    # Which entries are void, as known on a day.
    def voids(self, known):
        return frozenset(call[2] for call in self.entries if call[0] == VOID and call[1] <= known)

    # The true owner of a plot behind so many entries; later entries do not change it, so it is looked for once.
    def owns(self, plot, count, voids):
        key = plot, count, voids
        if key not in self.found:
            self.found[key] = self.find_owner(plot, count, voids)
        return self.found[key]

    def find_owner(self, plot, count, voids):
        if count == 0:
            return self.owners[plot]
        number, call = count - 1, self.entries[count - 1]
        before = self.owns(plot, number, voids)
        if number in voids or self.plot_of(call) != plot:
            return before
        if call[0] == TRANSFER and self.gets(plot, number, call[5], voids):
            return call[4]
        if call[0] == FULFIL:
            noted = self.entries[call[2]]
            if self.truly_given(call[2], voids):
                return noted[4]
            if self.shown[number][plot][0] == noted[3] and self.gets(plot, number, call[3], voids):
                return noted[4]
        return before

    def gets(self, plot, number, knows, voids):
        registered, standing, places = self.shown[number][plot]
        if registered == self.owns(plot, number, voids):
            return True
        return not knows and OBJECTION not in self.sorts(*standing)

    def truly_given(self, number, voids):
        call = self.entries[number]
        return number not in voids and self.gets(call[2], number, call[-1], voids)

    def refusal(self, call):
        kind, day = call[0], call[1]
        people = {TRANSFER: call[3:5], CHARGE: call[3:5], NOTICE: call[3:5], OBJECTION: call[3:4], STRIKE: call[3:4]}
        here = people.get(kind, [])
        plots = [call[2]] if kind in (TRANSFER, CHARGE, NOTICE, OBJECTION, CORRECT) else []
        if day > 1000000 or any(person >= self.persons for person in here) or len(set(here)) < len(here):
            return -1
        if any(plot >= len(self.owners) for plot in plots) or (kind == CHARGE and not 0 < call[5] <= 1000000):
            return -1
        asked = {FULFIL: (NOTICE,), STRIKE: (CHARGE, NOTICE, OBJECTION), VOID: (TRANSFER, CHARGE, NOTICE, FULFIL)}
        if kind in asked and self.sorts(call[2])[0] not in asked[kind]:
            return -2
        if kind == AHEAD and (call[2] == call[3] or self.sorts(call[2], call[3]) != [CHARGE, CHARGE]):
            return -2
        if any(entry[1] > day for entry in self.entries):
            return -4
        if not self.allowed(call):
            return -6
        return -5 if len(self.entries) == 40 else 0

    def allowed(self, call):
        kind = call[0]
        registered, standing, places = self.shown[-1][self.plot_of(call)]
        if kind in (TRANSFER, CHARGE, NOTICE):
            return call[3] == registered
        if kind == FULFIL:
            return call[2] in standing
        if kind == STRIKE:
            return call[2] in standing and self.person_of(call[2]) == call[3]
        if kind == AHEAD:
            order = [place[0] for place in places]
            return call[2] in order and call[3] in order and order.index(call[3]) < order.index(call[2])
        return kind != VOID or call[2] not in self.voids(1000000)

    def make(self, call):
        refused = self.refusal(call)
        if refused:
            return refused
        plot, number = self.plot_of(call), len(self.entries)
        shown = list(self.shown[-1])
        shown[plot] = self.entered(call, number, plot, *shown[plot])
        self.entries.append(call)
        self.shown.append(shown)
        return number

    def entered(self, call, number, plot, registered, standing, places):
        kind = call[0]
        gone = []
        if kind == TRANSFER:
            registered = call[4]
        elif kind in (CHARGE, NOTICE, OBJECTION):
            standing += (number,)
            places += ((number, call[5]),) if kind == CHARGE else ()
        elif kind == FULFIL:
            registered = self.entries[call[2]][4]
            gone = [other for other in standing if other >= call[2] and self.sorts(other) != [OBJECTION]]
        elif kind == STRIKE:
            gone = [call[2]]
        elif kind == AHEAD:
            places = self.filled(places, call[2], call[3])
        elif kind == CORRECT:
            registered = self.owns(plot, number, self.voids(1000000))
        standing = tuple(other for other in standing if other not in gone)
        return registered, standing, tuple(place for place in places if place[0] not in gone)

    # Unit by unit: the places of both are as long as before, and what is in them is one behind the other.
    def filled(self, places, one, other):
        units = [charge for wanted in (one, other) for charge, amount in places if charge == wanted
                 for unit in range(amount)]
        filled = []
        for charge, amount in places:
            if charge not in (one, other):
                filled.append((charge, amount))
                continue
            here, units = units[:amount], units[amount:]
            filled += [(wanted, here.count(wanted)) for wanted in (one, other) if wanted in here]
        return tuple(filled)

    def count_on(self, day):
        return len([call for call in self.entries if call[1] <= day])

    def answer(self, call):
        kind = call[0]
        if kind == 0:
            fits = 1 <= call[1] <= 10 and 1 <= call[2] <= 6 and all(person < call[1] for person in call[3:])
            if fits:
                self.begin(call[1], call[3:])
            return [0 if fits else -1]
        if kind <= VOID:
            return [self.make(call)]
        if call[1] >= len(self.owners) or (kind == 13 and call[4] > 1000000):
            return [-1]
        return self.asked(kind, *call[1:])

    def asked(self, kind, plot, *rest):
        if kind == 15:
            return self.days(plot, self.voids(rest[0]))
        count = self.count_on(rest[0])
        registered, standing, places = self.shown[count][plot]
        if kind == 14:
            found = [number for number in standing if self.sorts(number) != [CHARGE]]
            rows = [[3, number, int(self.sorts(number) == [NOTICE]), self.person_of(number)] for number in found]
            return [len(rows)] + sum(rows, [])
        voids = self.voids(rest[1])
        if kind == 10:
            return [0, 2, registered, self.owns(plot, count, voids)]
        if kind == 11:
            rows = [[4, number, self.person_of(number), amount, int(self.truly_given(number, voids))]
                    for number, amount in places]
            return [len(rows)] + sum(rows, [])
        if kind == 12:
            return [int(self.gets(plot, count, 0, voids))]
        return self.sale(places, voids, rest[2])

    def sale(self, places, voids, amount):
        # Each unit of a place that gets something, in order.
        units = [number for number, size in places for unit in range(size) if self.truly_given(number, voids)]
        paid = units[:amount]
        rows = [[3, number, self.person_of(number), paid.count(number)]
                for number in dict.fromkeys(place[0] for place in places)]
        return [amount - len(paid)] + sum(rows, [])

    def days(self, plot, voids):
        rows = []
        for day in sorted({0} | {call[1] for call in self.entries}):
            count = self.count_on(day)
            pair = [self.shown[count][plot][0], self.owns(plot, count, voids)]
            if not rows or rows[-1][2:] != pair:
                rows.append([3, day] + pair)
        return [len(rows)] + sum(rows, [])


class Drawn:
    """Draws calls that mostly fit the model as it stands, and at times do not."""

    def __init__(self, seed):
        self.random = random.Random(seed)
        self.model = Model()
        self.day = 0

    def one_of(self, *choices):
        return self.random.choice(choices)

    def chance(self, percent):
        return self.random.randrange(100) < percent

    def number(self, bound):
        return self.random.randrange(bound + (1 if self.chance(3) else 0))

    def line(self, length):
        asking, anew = self.one_of(2, 20, 40, 60), self.chance(25)
        calls, expected = [], []
        while len(calls) < length:
            if not calls or (anew and self.chance(3)):
                calls.append(self.beginning())
            else:
                calls.append(self.question() if self.chance(asking) else self.entry())
            expected.append(self.model.answer(calls[-1]))
        return calls, expected

    def beginning(self):
        persons, plots = self.random.randint(2, 6), self.random.randint(1, 3)
        self.day = 0
        return begins(persons, [self.random.randrange(persons) for plot in range(plots)])

    def entry(self):
        self.day += self.one_of(0, 0, 1, 2)
        day = self.day - 2 if self.day > 2 and self.chance(6) else self.day
        plot, person = self.number(len(self.model.owners)), self.number(self.model.persons)
        registered, standing, places = self.model.shown[-1][plot % len(self.model.owners)]
        giver = self.number(self.model.persons) if self.chance(3) else registered
        if person == giver and self.chance(80):
            person = (giver + 1) % self.model.persons
        number, other = self.number(len(self.model.entries) or 1), self.number(len(self.model.entries) or 1)
        knows = self.one_of(0, 1)
        kind = self.one_of(transfer, transfer, charge, charge, notice, fulfil, objection, strike, ahead, correct, void,
                           void)
        if self.chance(93):
            kind, number, other, person = self.fitting(kind, standing, places, number, other, person)
        return {
            transfer: transfer(day, plot, giver, person, knows),
            charge: charge(day, plot, giver, person, self.random.randrange(0, 25), knows),
            notice: notice(day, plot, giver, person, knows),
            fulfil: fulfil(day, number, knows), objection: objection(day, plot, person),
            strike: strike(day, number, person), ahead: ahead(day, number, other), correct: correct(day, plot),
            void: void(day, number)}[kind]

    def fitting(self, kind, standing, places, number, other, person):
        """What there is to be fulfilled, struck, put ahead or voided; something else where there is nothing."""
        sorts = dict(zip(range(len(self.model.entries)), self.model.sorts(*range(len(self.model.entries)))))
        notices = [entry for entry in standing if sorts[entry] == NOTICE]
        charged = list(dict.fromkeys(place[0] for place in places))
        voidable = [entry for entry in sorts if sorts[entry] in (TRANSFER, CHARGE, NOTICE, FULFIL)]
        if kind == fulfil:
            return (fulfil, self.one_of(*notices), other, person) if notices else (notice, number, other, person)
        if kind == strike and standing:
            number = self.one_of(*standing)
            return strike, number, other, self.model.person_of(number)
        if kind == ahead and len(charged) < 2:
            return charge, number, other, person
        if kind == ahead:
            behind = self.random.randrange(1, len(charged))
            return ahead, charged[behind], charged[self.random.randrange(behind)], person
        if kind == void and voidable:
            number = self.one_of(*voidable)
        return kind, number, other, person

    def question(self):
        plot = self.number(len(self.model.owners))
        day, known = [self.random.randrange(self.day + 3) for step in range(2)]
        kind = self.one_of(owner, charges, rely, sale, stands, days)
        if kind == sale:
            return sale(plot, day, known, self.random.randrange(0, 80))
        if kind in (stands, days):
            return kind(plot, day)
        return kind(plot, day, known)


class ModelTest(unittest.TestCase):
    def test_on_drawn_lines(self):
        seen = {}
        for seed in range(LINES):
            calls, expected = Drawn(seed).line(60)
            self.assertEqual(told(*calls), expected, (seed, calls))
            for call, numbers in zip(calls, expected):
                key = call[0], min(numbers[0], 0)
                seen[key] = seen.get(key, 0) + 1
        self.check_that_all_was_drawn(seen)

    # Lest the lines agree for want of anything to compare.
    def check_that_all_was_drawn(self, seen):
        refusals = {kind: [-4, -5] if kind <= VOID else [-1] for kind in range(TRANSFER, 16)}
        for kind in (TRANSFER, CHARGE, NOTICE, OBJECTION, STRIKE, CORRECT):
            refusals[kind].append(-1)
        for kind in (FULFIL, STRIKE, AHEAD, VOID):
            refusals[kind].append(-2)
        for kind in (TRANSFER, CHARGE, NOTICE, FULFIL, STRIKE, AHEAD, VOID):
            refusals[kind].append(-6)
        for kind, refused in refusals.items():
            self.assertGreater(seen.get((kind, 0), 0), 500, kind)
            for number in refused:
                self.assertIn((kind, number), seen)
