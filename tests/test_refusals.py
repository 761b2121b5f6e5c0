import unittest

from landregister.registers import answers
from tests.calling import (
    HIGHEST, ahead, ask, begins, charge, charges, correct, days, fulfil, last, notice, objection, owner, rely, sale,
    stands, strike, told, transfer, void)

# Entries 0 to 8: on plot 0 charges 0 and 1, notice 2, objection 3; on plot 1 charge 4, transfer 5;
# then fulfil 7 of notice 6 on plot 2, and strike 8 of objection 3.
START = [
    begins(6, [0, 1, 2]), charge(10, 0, 0, 1, 50), charge(10, 0, 0, 2, 30), notice(10, 0, 0, 3), objection(10, 0, 4),
    charge(11, 1, 1, 5, 20), transfer(11, 1, 1, 0), notice(12, 2, 2, 1), fulfil(12, 6), strike(12, 3, 4)]
FULL = START + [objection(12, 0, 0)] * 31
TODAY = 12

GOOD = (
    transfer(TODAY, 0, 0, 1), charge(TODAY, 0, 0, 1, 5), notice(TODAY, 0, 0, 1), fulfil(TODAY, 2),
    objection(TODAY, 0, 1), strike(TODAY, 0, 1), ahead(TODAY, 1, 0), correct(TODAY, 0), void(TODAY, 0))

# All that can be asked of each plot, on days and as known ahead of, on and behind those of the entries.
ASKED = [question for plot in range(3) for day in (0, 10, 11, TODAY, TODAY + 1) for known in (0, TODAY, TODAY + 1)
         for question in (owner(plot, day, known), charges(plot, day, known), rely(plot, day, known),
                          sale(plot, day, known, 60), stands(plot, day), days(plot, known))]


def on(day, call):
    return [call[0], day] + call[2:]


class StartTest(unittest.TestCase):
    def test_the_start_is_made(self):
        self.assertEqual(ask(*START), [0] + list(range(9)))
        for call in GOOD:
            self.assertEqual(last(*START, call), 9, call)


class NotSoundTest(unittest.TestCase):
    def refused(self, *calls):
        for call in calls:
            self.assertEqual(last(*START, call), -1, call)

    def test_the_day_is_above_the_last(self):
        for call in GOOD:
            self.assertEqual(last(*START, on(1000000, call)), 9, call)
            self.refused(on(1000001, call), on(HIGHEST, call))

    def test_the_plot_is_not_there(self):
        for plot in (3, 6, HIGHEST):
            self.refused(transfer(TODAY, plot, 0, 1), charge(TODAY, plot, 0, 1, 5), notice(TODAY, plot, 0, 1),
                         objection(TODAY, plot, 1), correct(TODAY, plot))

    def test_the_last_plot_is_there(self):
        for call in (transfer(TODAY, 2, 1, 0), charge(TODAY, 2, 1, 0, 5), notice(TODAY, 2, 1, 0),
                     objection(TODAY, 2, 1), correct(TODAY, 2)):
            self.assertEqual(last(*START, call), 9, call)

    def test_a_person_is_not_there(self):
        for person in (6, 10, HIGHEST):
            self.refused(transfer(TODAY, 0, 0, person), charge(TODAY, 0, 0, person, 5), notice(TODAY, 0, 0, person),
                         transfer(TODAY, 0, person, 0), charge(TODAY, 0, person, 0, 5), notice(TODAY, 0, person, 0),
                         objection(TODAY, 0, person), strike(TODAY, 0, person))

    def test_the_last_person_is_there(self):
        for call in (transfer(TODAY, 0, 0, 5), charge(TODAY, 0, 0, 5, 5), notice(TODAY, 0, 0, 5),
                     objection(TODAY, 2, 5)):
            self.assertEqual(last(*START, call), 9, call)
        self.assertEqual(last(*START, strike(TODAY, 4, 5)), 9)

    def test_giver_and_receiver_are_the_same(self):
        for person in (0, 1):
            self.refused(transfer(TODAY, 0, person, person), charge(TODAY, 0, person, person, 5),
                         notice(TODAY, 0, person, person))

    def test_the_amount(self):
        for amount in (0, 1000001, HIGHEST):
            self.refused(charge(TODAY, 0, 0, 1, amount))
        for amount in (1, 1000000):
            self.assertEqual(last(*START, charge(TODAY, 0, 0, 1, amount)), 9)


class NotFoundTest(unittest.TestCase):
    def check(self, call, expected):
        self.assertEqual(last(*START, call), expected, call)

    def test_fulfil_asks_for_a_notice(self):
        for entry in (0, 3, 5, 7, 8, 9, 40, HIGHEST):
            self.check(fulfil(TODAY, entry), -2)

    def test_strike_asks_for_a_charge_notice_or_objection(self):
        for entry in (5, 7, 8, 9, 40, HIGHEST):
            self.check(strike(TODAY, entry, 0), -2)

    def test_ahead_asks_for_two_different_charges(self):
        for entry in (2, 3, 5, 6, 7, 8, 9, 40, HIGHEST):
            self.check(ahead(TODAY, entry, 0), -2)
            self.check(ahead(TODAY, 1, entry), -2)
            self.check(ahead(TODAY, entry, entry), -2)
        self.check(ahead(TODAY, 0, 0), -2)
        self.check(ahead(TODAY, 1, 1), -2)

    def test_void_asks_for_a_transfer_charge_notice_or_fulfilment(self):
        for entry in (0, 1, 2, 4, 5, 6, 7):
            self.check(void(TODAY, entry), 9)
        for entry in (3, 8, 9, 40, HIGHEST):
            self.check(void(TODAY, entry), -2)

    def test_ahead_correct_and_void_are_none_of_the_sorts(self):
        for entry in (ahead(TODAY, 1, 0), correct(TODAY, 0), void(TODAY, 5)):
            for call in (fulfil(TODAY, 9), strike(TODAY, 9, 1), ahead(TODAY, 9, 0), ahead(TODAY, 1, 9),
                         void(TODAY, 9)):
                self.assertEqual(ask(*START, entry, call)[-2:], [9, -2], (entry, call))

    def test_with_no_entry_at_all(self):
        self.assertEqual(ask(fulfil(0, 0), strike(0, 0, 0), ahead(0, 0, 0), ahead(0, 0, 1), void(0, 0)), [-2] * 5)


class TooEarlyTest(unittest.TestCase):
    def test_the_day_of_the_last_entry_is_not_too_early(self):
        for call in GOOD:
            self.assertEqual(last(*START, on(TODAY, call)), 9, call)
            self.assertEqual(last(*START, on(TODAY + 1, call)), 9, call)

    def test_an_earlier_day(self):
        for call in GOOD:
            for day in (0, 10, TODAY - 1):
                self.assertEqual(last(*START, on(day, call)), -4, call)

    def test_the_later_entry_may_be_about_another_plot(self):
        self.assertEqual(ask(begins(1, [0, 0]), objection(5, 1, 0), objection(4, 0, 0)), [0, 0, -4])


class NotAllowedTest(unittest.TestCase):
    def check(self, call, expected):
        self.assertEqual(last(*START, call), expected, call)

    def test_the_giver_is_not_registered(self):
        for plot, registered in ((0, 0), (1, 0), (2, 1)):
            for giver in range(6):
                receiver = (giver + 1) % 6
                expected = 9 if giver == registered else -6
                self.check(transfer(TODAY, plot, giver, receiver), expected)
                self.check(charge(TODAY, plot, giver, receiver, 5), expected)
                self.check(notice(TODAY, plot, giver, receiver), expected)

    def test_the_notice_does_not_stand(self):
        self.check(fulfil(TODAY, 6), -6)
        self.check(fulfil(TODAY, 2), 9)

    def test_only_the_creditor_or_person_strikes(self):
        for entry, person in ((0, 1), (1, 2), (2, 3), (4, 5)):
            for striker in range(6):
                self.check(strike(TODAY, entry, striker), 9 if striker == person else -6)

    def test_an_objection_is_struck_by_its_person_alone(self):
        calls = START + [objection(TODAY, 1, 2)]
        for striker in range(6):
            self.assertEqual(last(*calls, strike(TODAY, 9, striker)), 10 if striker == 2 else -6)

    def test_what_stands_no_more_is_not_struck(self):
        for striker in range(6):
            self.check(strike(TODAY, 3, striker), -6)
            self.check(strike(TODAY, 6, striker), -6)

    def test_charges_of_two_plots(self):
        self.check(ahead(TODAY, 4, 0), -6)
        self.check(ahead(TODAY, 0, 4), -6)

    def test_the_other_is_not_ahead(self):
        self.check(ahead(TODAY, 0, 1), -6)
        self.assertEqual(last(*START, ahead(TODAY, 1, 0), ahead(TODAY, 1, 0)), -6)
        self.assertEqual(last(*START, ahead(TODAY, 1, 0), ahead(TODAY, 0, 1)), 10)

    def test_a_charge_that_stands_no_more(self):
        for gone, by in ((0, 1), (1, 2)):
            calls = START + [strike(TODAY, gone, by)]
            self.assertEqual(last(*calls, ahead(TODAY, 1, 0)), -6)
            self.assertEqual(last(*calls, ahead(TODAY, 0, 1)), -6)


    def test_what_is_known_to_be_void(self):
        for entry in (0, 1, 2, 4, 5, 6, 7):
            for day in (TODAY, TODAY + 1):
                calls = START + [void(TODAY, entry), void(day, entry)]
                self.assertEqual(ask(*calls)[-2:], [9, -6], (entry, day))

    def test_another_may_still_be_void(self):
        calls = START + [void(TODAY, entry) for entry in (7, 6, 5, 4, 2, 1, 0)]
        self.assertEqual(ask(*calls)[-7:], list(range(9, 16)))

    def test_what_stands_no_more_may_be_void(self):
        calls = START + [strike(TODAY, 0, 1), void(TODAY, 0), strike(TODAY, 2, 3), void(TODAY, 2)]
        self.assertEqual(ask(*calls)[-4:], [9, 10, 11, 12])

    def test_the_register_stays_as_it_is_when_an_entry_is_void(self):
        calls = START + [void(TODAY, 2), void(TODAY, 5), void(TODAY, 0)]
        for call in (fulfil(TODAY, 2), transfer(TODAY, 1, 0, 2), strike(TODAY, 0, 1), ahead(TODAY, 1, 0)):
            self.assertEqual(last(*calls, call), 12, call)
        self.assertEqual(last(*calls, transfer(TODAY, 1, 1, 2)), -6)

    def test_correct_is_always_allowed(self):
        for plot in range(3):
            self.assertEqual(ask(*START, correct(TODAY, plot), correct(TODAY, plot))[-2:], [9, 10])


class FullTest(unittest.TestCase):
    def test_there_are_forty(self):
        self.assertEqual(last(*FULL), 39)
        for call in GOOD:
            self.assertEqual(last(*FULL, call), -5, call)
            self.assertEqual(last(*FULL[:-1], call), 39, call)


class SeveralAtOnceTest(unittest.TestCase):
    def check(self, call, expected):
        self.assertEqual(last(*FULL, call), expected, call)

    def test_not_sound_ahead_of_all_others(self):
        for call in (transfer(0, 3, 5, 5), charge(0, 0, 5, 1, 0), notice(0, 0, 5, 6), objection(0, 0, 6),
                     fulfil(1000001, HIGHEST), strike(0, HIGHEST, 6), ahead(1000001, 0, 0), correct(0, 3),
                     void(1000001, HIGHEST)):
            self.check(call, -1)

    def test_not_found_ahead_of_too_early(self):
        for call in (fulfil(0, 0), strike(0, 5, 0), ahead(0, 1, 1), ahead(0, 1, HIGHEST), void(0, 3)):
            self.check(call, -2)

    def test_not_found_ahead_of_full(self):
        for call in (fulfil(TODAY, 0), strike(TODAY, 5, 0), ahead(TODAY, 1, 1), void(TODAY, 40)):
            self.check(call, -2)

    def test_too_early_ahead_of_not_allowed(self):
        for call in (transfer(0, 0, 5, 1), charge(0, 0, 5, 1, 5), notice(0, 0, 5, 1), fulfil(0, 6),
                     strike(0, 0, 5), ahead(0, 0, 1)):
            self.check(call, -4)
        self.assertEqual(ask(*START, void(TODAY, 0), void(TODAY - 1, 0))[-2:], [9, -4])

    def test_too_early_ahead_of_full(self):
        for call in GOOD:
            self.check(on(TODAY - 1, call), -4)

    def test_not_allowed_ahead_of_full(self):
        for call in (transfer(TODAY, 0, 5, 1), charge(TODAY, 0, 5, 1, 5), notice(TODAY, 0, 5, 1), fulfil(TODAY, 6),
                     strike(TODAY, 0, 5), ahead(TODAY, 0, 1)):
            self.check(call, -6)
        self.assertEqual(ask(*FULL[:-1], void(TODAY, 0), void(TODAY, 0), void(TODAY, 1))[-3:], [39, -6, -5])


class AskedTest(unittest.TestCase):
    def test_the_plot_is_not_there(self):
        for plot in (3, 6, HIGHEST):
            for question in (owner(plot, 0, 0), charges(plot, 12, 12), rely(plot, 0, HIGHEST), stands(plot, 11),
                             sale(plot, 0, 0, 0), sale(plot, 12, 12, 1000001), days(plot, 12)):
                self.assertEqual(told(*START, question)[-1], [-1], question)

    def test_the_last_plot_is_there(self):
        for question in (owner(2, 0, 0), charges(2, 0, 0), rely(2, 0, 0), sale(2, 0, 0, 0), stands(2, 0), days(2, 0)):
            self.assertGreaterEqual(told(*START, question)[-1][0], 0, question)

    def test_the_amount_of_a_sale(self):
        for amount in (1000001, HIGHEST):
            self.assertEqual(told(*START, sale(0, 12, 12, amount))[-1], [-1])
        for amount in (0, 1000000):
            self.assertGreaterEqual(told(*START, sale(0, 12, 12, amount))[-1][0], 0)

    def test_days_have_no_bound(self):
        for day in (0, 9, 1000000, 1000001, HIGHEST):
            for question in (owner(0, day, day), charges(0, day, day), rely(0, day, day), sale(0, day, day, 7),
                             stands(0, day), days(0, day)):
                self.assertGreaterEqual(told(*START, question)[-1][0], 0, question)

    def test_the_book_may_be_full(self):
        for question in ASKED:
            self.assertGreaterEqual(told(*FULL, question)[-1][0], 0, question)


class AsItWasTest(unittest.TestCase):
    def state(self, *calls):
        return [told(*calls, question)[-1] for question in ASKED]

    def test_behind_a_refusal(self):
        start = START + [void(TODAY, 5)]
        wrong = [on(1000001, call) for call in GOOD] + [on(0, call) for call in GOOD] + [
            begins(11, [0]), transfer(TODAY, 0, 5, 1), charge(TODAY, 0, 5, 1, 5), charge(TODAY, 0, 0, 1, 0),
            notice(TODAY, 0, 5, 1), fulfil(TODAY, 6), fulfil(TODAY, 0), objection(TODAY, 9, 0), strike(TODAY, 0, 5),
            strike(TODAY, 5, 0), ahead(TODAY, 0, 1), ahead(TODAY, 4, 0), ahead(TODAY, 0, 0), correct(TODAY, 3),
            correct(TODAY - 1, 1), void(TODAY, 3), void(TODAY, 5), void(TODAY - 1, 0), owner(3, 0, 0),
            charges(3, 0, 0), rely(3, 0, 0), sale(0, 0, 0, 1000001), stands(3, 0), days(3, 0)]
        before = self.state(*start)
        for call in wrong:
            self.assertIn(last(*start, call), (-1, -2, -4, -6), call)
            self.assertEqual(self.state(*start, call), before, call)
            self.assertEqual([last(*start, call, good) for good in GOOD], [10] * len(GOOD), call)

    def test_behind_a_refusal_since_there_are_forty(self):
        before = self.state(*FULL)
        for call in GOOD:
            self.assertEqual(last(*FULL, call), -5, call)
            self.assertEqual(self.state(*FULL, call), before, call)

    def test_behind_what_is_asked(self):
        before = self.state(*START)
        for question in ASKED[:18]:
            self.assertEqual(self.state(*START, question), before, question)
            self.assertEqual([told(*START, question, good)[-1] for good in GOOD], [[9]] * len(GOOD), question)

    def test_a_refusal_is_its_number_alone(self):
        self.assertEqual(answers(objection(0, 0, 1)), [1, -1])
        self.assertEqual(answers(owner(1, 0, 0) + sale(0, 0, 0, 1000001) + days(1, 0)), [1, -1, 1, -1, 1, -1])
