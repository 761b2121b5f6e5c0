"""The sorts of entries: what each of them needs, what it does to the sheet of its plot, and what comes true by it."""

from landregister.ranks import put_ahead, stands_first

MOST_AMOUNT = 1000000


def entry_at(entries, number):
    if number < len(entries):
        return entries[number]
    return None


# What holds of an entry whose sort does not say otherwise.
class Entry:
    def __init__(self, day):
        self.day = day

    def is_sound(self, persons, plots):
        return True

    def finds_its_entries(self, entries):
        return True

    def may_be_made(self, sheet):
        return True

    # What is to be kept of the sheet as it is when the entry is made.
    def settle(self, sheet):
        pass

    def take_effect(self, number, sheet):
        pass

    def enter(self, number, sheet):
        pass


# An entry that is handed in with its plot.
class PlotEntry(Entry):
    def __init__(self, day, plot):
        Entry.__init__(self, day)
        self.plot = plot

    def is_sound(self, persons, plots):
        return self.plot < plots

    def plot_among(self, entries):
        return self.plot


# An entry that is handed in with its plot and with the person whom it is for.
class PersonEntry(PlotEntry):
    def __init__(self, day, plot, person):
        PlotEntry.__init__(self, day, plot)
        self.person = person

    def is_there(self, persons, plots):
        return self.plot < plots and self.person < persons

    def is_sound(self, persons, plots):
        return self.is_there(persons, plots)


# By transfer, charge and notice the giver gives something to the person.
class Grant(PersonEntry):
    def __init__(self, day, plot, giver, person, knows):
        PersonEntry.__init__(self, day, plot, person)
        self.giver = giver
        self.knows = knows

    def has_its_giver(self, persons):
        return self.giver < persons and self.giver != self.person

    def is_sound(self, persons, plots):
        return self.is_there(persons, plots) and self.has_its_giver(persons)

    def may_be_made(self, sheet):
        return self.giver == sheet.registered

    def take_effect(self, number, sheet):
        if sheet.acquires(self.knows):
            sheet.given[number] = True


class Transfer(Grant):
    def take_effect(self, number, sheet):
        if sheet.acquires(self.knows):
            sheet.owner = self.person

    def enter(self, number, sheet):
        sheet.registered = self.person


class Charge(Grant):
    def __init__(self, day, plot, giver, person, amount, knows):
        Grant.__init__(self, day, plot, giver, person, knows)
        self.amount = amount

    def is_sound(self, persons, plots):
        if not 1 <= self.amount <= MOST_AMOUNT:
            return False
        return self.is_there(persons, plots) and self.has_its_giver(persons)

    def enter(self, number, sheet):
        sheet.stand(number, self)
        sheet.places.append((number, self.amount))


class Notice(Grant):
    def enter(self, number, sheet):
        sheet.stand(number, self)


class Objection(PersonEntry):
    def enter(self, number, sheet):
        sheet.stand(number, self)


class Fulfil(Entry):
    def __init__(self, day, noted, knows):
        Entry.__init__(self, day)
        self.noted = noted
        self.knows = knows

    def finds_its_entries(self, entries):
        return isinstance(entry_at(entries, self.noted), Notice)

    def plot_among(self, entries):
        return entries[self.noted].plot

    def may_be_made(self, sheet):
        return self.noted in sheet.standing

    # What was truly given by the notice holds against whoever came to own the plot since; else the person is as one to
    # whom the giver gives the plot now.
    def take_effect(self, number, sheet):
        noted = sheet.standing[self.noted]
        if self.noted in sheet.given:
            sheet.owner = noted.person
        elif noted.giver == sheet.registered and sheet.acquires(self.knows):
            sheet.owner = noted.person

    # An objection is no right in the plot, so it goes on standing.
    def enter(self, number, sheet):
        sheet.registered = sheet.standing[self.noted].person
        for later in list(sheet.standing):
            if later >= self.noted and isinstance(sheet.standing[later], (Charge, Notice)):
                sheet.drop(later)


class Strike(Entry):
    def __init__(self, day, struck, striker):
        Entry.__init__(self, day)
        self.struck = struck
        self.striker = striker

    def is_sound(self, persons, plots):
        return self.striker < persons

    def finds_its_entries(self, entries):
        return isinstance(entry_at(entries, self.struck), (Charge, Notice, Objection))

    def plot_among(self, entries):
        return entries[self.struck].plot

    def may_be_made(self, sheet):
        return self.struck in sheet.standing and sheet.standing[self.struck].person == self.striker

    def enter(self, number, sheet):
        sheet.drop(self.struck)


class Ahead(Entry):
    def __init__(self, day, one, other):
        Entry.__init__(self, day)
        self.one = one
        self.other = other

    def finds_its_entries(self, entries):
        if self.one == self.other or not isinstance(entry_at(entries, self.one), Charge):
            return False
        return isinstance(entry_at(entries, self.other), Charge)

    def plot_among(self, entries):
        return entries[self.one].plot

    # A charge of another plot does not stand on this sheet, so that is refused here too.
    def may_be_made(self, sheet):
        if self.one not in sheet.standing or self.other not in sheet.standing:
            return False
        return stands_first(sheet.places, self.other, self.one)

    def enter(self, number, sheet):
        sheet.places = put_ahead(sheet.places, self.one, self.other)


class Correct(PlotEntry):
    def __init__(self, day, plot):
        PlotEntry.__init__(self, day, plot)
        self.owner = None

    # Who is registered stays so, though it may come to be known later that another one owned the plot.
    def settle(self, sheet):
        self.owner = sheet.owner

    def enter(self, number, sheet):
        sheet.registered = self.owner


class Void(Entry):
    def __init__(self, day, voided):
        Entry.__init__(self, day)
        self.voided = voided

    def finds_its_entries(self, entries):
        return isinstance(entry_at(entries, self.voided), (Transfer, Charge, Notice, Fulfil))

    def plot_among(self, entries):
        return entries[self.voided].plot_among(entries)

    def may_be_made(self, sheet):
        return self.voided not in sheet.void
