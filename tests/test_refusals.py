import unittest

from landregister.registers import answers
from tests.calling import (
    HIGHEST, ahead, ask, begins, book_behind, charge, fulfil, last, notice, objection, strike, transfer)

# Entries 0 to 8: on plot 0 charges 0 and 1, notice 2, objection 3; on plot 1 charge 4, transfer 5;
# then fulfil 7 of notice 6 on plot 2, and strike 8 of objection 3.
START = [
    begins(6, [0, 1, 2]), charge(10, 0, 0, 1, 50), charge(10, 0, 0, 2, 30), notice(10, 0, 0, 3), objection(10, 0, 4),
    charge(11, 1, 1, 5, 20), transfer(11, 1, 1, 0), notice(12, 2, 2, 1), fulfil(12, 6), strike(12, 3, 4)]
FULL = START + [objection(12, 0, 0)] * 31
TODAY = 12

GOOD = (
    transfer(TODAY, 0, 0, 1), charge(TODAY, 0, 0, 1, 5), notice(TODAY, 0, 0, 1), fulfil(TODAY, 2),
    objection(TODAY, 0, 1), strike(TODAY, 0, 1), ahead(TODAY, 1, 0))


def on(day, call):
    return [call[0], day] + call[2:]


class StartTest(unittest.TestCase):
    def test_the_start_is_made(self):
        self.assertEqual(ask(*START), [0] + list(range(9)))
        for call in GOOD:
            self.assertEqual(last(*START, call), 9, call)


class NotSoundTest(unittest.TestCase):
    def refused(self, *calls):
        for call in calls:
            self.assertEqual(last(*START, call), -1, call)

    def test_the_day_is_above_the_last(self):
        for call in GOOD:
            self.assertEqual(last(*START, on(1000000, call)), 9, call)
            self.refused(on(1000001, call), on(HIGHEST, call))

    def test_the_plot_is_not_there(self):
        for plot in (3, 6, HIGHEST):
            self.refused(transfer(TODAY, plot, 0, 1), charge(TODAY, plot, 0, 1, 5), notice(TODAY, plot, 0, 1),
                         objection(TODAY, plot, 1))

    def test_a_person_is_not_there(self):
        for person in (6, 10, HIGHEST):
            self.refused(transfer(TODAY, 0, 0, person), charge(TODAY, 0, 0, person, 5), notice(TODAY, 0, 0, person),
                         transfer(TODAY, 0, person, 0), charge(TODAY, 0, person, 0, 5), notice(TODAY, 0, person, 0),
                         objection(TODAY, 0, person), strike(TODAY, 0, person))

    def test_the_last_person_is_there(self):
        for call in (transfer(TODAY, 0, 0, 5), charge(TODAY, 0, 0, 5, 5), notice(TODAY, 0, 0, 5),
                     objection(TODAY, 2, 5)):
            self.assertEqual(last(*START, call), 9, call)
        self.assertEqual(last(*START, strike(TODAY, 4, 5)), 9)

    def test_giver_and_receiver_are_the_same(self):
        for person in (0, 1):
            self.refused(transfer(TODAY, 0, person, person), charge(TODAY, 0, person, person, 5),
                         notice(TODAY, 0, person, person))

    def test_the_amount(self):
        for amount in (0, 1000001, HIGHEST):
            self.refused(charge(TODAY, 0, 0, 1, amount))
        for amount in (1, 1000000):
            self.assertEqual(last(*START, charge(TODAY, 0, 0, 1, amount)), 9)


class NotFoundTest(unittest.TestCase):
    def check(self, call, expected):
        self.assertEqual(last(*START, call), expected, call)

    def test_fulfil_asks_for_a_notice(self):
        for entry in (0, 3, 5, 7, 8, 9, 40, HIGHEST):
            self.check(fulfil(TODAY, entry), -2)

    def test_strike_asks_for_a_charge_notice_or_objection(self):
        for entry in (5, 7, 8, 9, 40, HIGHEST):
            self.check(strike(TODAY, entry, 0), -2)

    def test_ahead_asks_for_two_different_charges(self):
        for entry in (2, 3, 5, 6, 7, 8, 9, 40, HIGHEST):
            self.check(ahead(TODAY, entry, 0), -2)
            self.check(ahead(TODAY, 1, entry), -2)
            self.check(ahead(TODAY, entry, entry), -2)
        self.check(ahead(TODAY, 0, 0), -2)
        self.check(ahead(TODAY, 1, 1), -2)

    def test_ahead_is_none_of_the_sorts(self):
        calls = START + [ahead(TODAY, 1, 0)]
        for call in (fulfil(TODAY, 9), strike(TODAY, 9, 1), ahead(TODAY, 9, 0)):
            self.assertEqual(last(*calls, call), -2, call)

    def test_with_no_entry_at_all(self):
        self.assertEqual(ask(fulfil(0, 0), strike(0, 0, 0), ahead(0, 0, 0), ahead(0, 0, 1)), [-2, -2, -2, -2])


class TooEarlyTest(unittest.TestCase):
    def test_the_day_of_the_last_entry_is_not_too_early(self):
        for call in GOOD:
            self.assertEqual(last(*START, on(TODAY, call)), 9, call)
            self.assertEqual(last(*START, on(TODAY + 1, call)), 9, call)

    def test_an_earlier_day(self):
        for call in GOOD:
            for day in (0, 10, TODAY - 1):
                self.assertEqual(last(*START, on(day, call)), -4, call)

    def test_the_later_entry_may_be_about_another_plot(self):
        self.assertEqual(ask(begins(1, [0, 0]), objection(5, 1, 0), objection(4, 0, 0)), [0, 0, -4])


class NotAllowedTest(unittest.TestCase):
    def check(self, call, expected):
        self.assertEqual(last(*START, call), expected, call)

    def test_the_giver_is_not_registered(self):
        for plot, registered in ((0, 0), (1, 0), (2, 1)):
            for giver in range(6):
                receiver = (giver + 1) % 6
                expected = 9 if giver == registered else -6
                self.check(transfer(TODAY, plot, giver, receiver), expected)
                self.check(charge(TODAY, plot, giver, receiver, 5), expected)
                self.check(notice(TODAY, plot, giver, receiver), expected)

    def test_the_notice_does_not_stand(self):
        self.check(fulfil(TODAY, 6), -6)
        self.check(fulfil(TODAY, 2), 9)

    def test_only_the_creditor_or_person_strikes(self):
        for entry, person in ((0, 1), (1, 2), (2, 3), (4, 5)):
            for striker in range(6):
                self.check(strike(TODAY, entry, striker), 9 if striker == person else -6)

    def test_an_objection_is_struck_by_its_person_alone(self):
        calls = START + [objection(TODAY, 1, 2)]
        for striker in range(6):
            self.assertEqual(last(*calls, strike(TODAY, 9, striker)), 10 if striker == 2 else -6)

    def test_what_stands_no_more_is_not_struck(self):
        for striker in range(6):
            self.check(strike(TODAY, 3, striker), -6)
            self.check(strike(TODAY, 6, striker), -6)

    def test_charges_of_two_plots(self):
        self.check(ahead(TODAY, 4, 0), -6)
        self.check(ahead(TODAY, 0, 4), -6)

    def test_the_other_is_not_ahead(self):
        self.check(ahead(TODAY, 0, 1), -6)
        self.assertEqual(last(*START, ahead(TODAY, 1, 0), ahead(TODAY, 1, 0)), -6)
        self.assertEqual(last(*START, ahead(TODAY, 1, 0), ahead(TODAY, 0, 1)), 10)

    def test_a_charge_that_stands_no_more(self):
        for gone, by in ((0, 1), (1, 2)):
            calls = START + [strike(TODAY, gone, by)]
            self.assertEqual(last(*calls, ahead(TODAY, 1, 0)), -6)
            self.assertEqual(last(*calls, ahead(TODAY, 0, 1)), -6)


class FullTest(unittest.TestCase):
    def test_there_are_forty(self):
        self.assertEqual(last(*FULL), 39)
        for call in GOOD:
            self.assertEqual(last(*FULL, call), -5, call)
            self.assertEqual(last(*FULL[:-1], call), 39, call)


class SeveralAtOnceTest(unittest.TestCase):
    def check(self, call, expected):
        self.assertEqual(last(*FULL, call), expected, call)

    def test_not_sound_ahead_of_all_others(self):
        for call in (transfer(0, 3, 5, 5), charge(0, 0, 5, 1, 0), notice(0, 0, 5, 6), objection(0, 0, 6),
                     fulfil(1000001, HIGHEST), strike(0, HIGHEST, 6), ahead(1000001, 0, 0)):
            self.check(call, -1)

    def test_not_found_ahead_of_too_early(self):
        for call in (fulfil(0, 0), strike(0, 5, 0), ahead(0, 1, 1), ahead(0, 1, HIGHEST)):
            self.check(call, -2)

    def test_not_found_ahead_of_full(self):
        for call in (fulfil(TODAY, 0), strike(TODAY, 5, 0), ahead(TODAY, 1, 1)):
            self.check(call, -2)

    def test_too_early_ahead_of_not_allowed(self):
        for call in (transfer(0, 0, 5, 1), charge(0, 0, 5, 1, 5), notice(0, 0, 5, 1), fulfil(0, 6),
                     strike(0, 0, 5), ahead(0, 0, 1)):
            self.check(call, -4)

    def test_too_early_ahead_of_full(self):
        for call in GOOD:
            self.check(on(TODAY - 1, call), -4)

    def test_not_allowed_ahead_of_full(self):
        for call in (transfer(TODAY, 0, 5, 1), charge(TODAY, 0, 5, 1, 5), notice(TODAY, 0, 5, 1), fulfil(TODAY, 6),
                     strike(TODAY, 0, 5), ahead(TODAY, 0, 1)):
            self.check(call, -6)


class AsItWasTest(unittest.TestCase):
    def told(self, book):
        sheets = [(sheet.registered, list(sheet.standing), sheet.places) for sheet in book.sheets]
        return book.persons, len(book.entries), sheets

    def test_behind_a_refusal(self):
        wrong = [on(1000001, call) for call in GOOD] + [on(0, call) for call in GOOD] + [
            begins(11, [0]), transfer(TODAY, 0, 5, 1), charge(TODAY, 0, 5, 1, 5), charge(TODAY, 0, 0, 1, 0),
            notice(TODAY, 0, 5, 1), fulfil(TODAY, 6), fulfil(TODAY, 0), objection(TODAY, 9, 0), strike(TODAY, 0, 5),
            strike(TODAY, 5, 0), ahead(TODAY, 0, 1), ahead(TODAY, 4, 0), ahead(TODAY, 0, 0)]
        before = self.told(book_behind(*START))
        for call in wrong:
            self.assertIn(last(*START, call), (-1, -2, -4, -6), call)
            self.assertEqual(self.told(book_behind(*START, call)), before, call)
            self.assertEqual([last(*START, call, good) for good in GOOD], [9] * len(GOOD), call)

    def test_behind_a_refusal_since_there_are_forty(self):
        before = self.told(book_behind(*FULL))
        for call in GOOD:
            self.assertEqual(last(*FULL, call), -5, call)
            self.assertEqual(self.told(book_behind(*FULL, call)), before, call)

    def test_a_refusal_is_its_number_alone(self):
        self.assertEqual(answers(objection(0, 0, 1)), [1, -1])
