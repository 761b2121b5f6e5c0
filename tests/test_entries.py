import unittest

from tests.calling import (
    ahead, ask, begins, book_behind, charge, correct, fulfil, last, notice, objection, places_behind, standing_behind,
    strike, transfer, void)


class NumbersTest(unittest.TestCase):
    def test_all_plots_are_counted_together(self):
        calls = [
            begins(5, [0, 1, 2]), transfer(0, 0, 0, 3), charge(1, 1, 1, 4, 50), notice(1, 2, 2, 0),
            objection(2, 0, 1), charge(3, 1, 1, 0, 20), ahead(3, 4, 1), fulfil(5, 2), strike(5, 3, 1),
            void(6, 0), correct(7, 0), void(8, 6), transfer(1000000, 2, 0, 4)]
        self.assertEqual(ask(*calls), [0] + list(range(12)))

    def test_a_refused_entry_has_no_number(self):
        calls = [begins(2, [0]), objection(5, 0, 1), objection(4, 0, 1), transfer(5, 0, 1, 0), objection(5, 0, 0)]
        self.assertEqual(ask(*calls), [0, 0, -4, -6, 1])

    def test_several_entries_on_one_day_and_the_first_and_last_day(self):
        calls = [objection(0, 0, 0), objection(0, 0, 0), objection(1000000, 0, 0), objection(1000000, 0, 0)]
        self.assertEqual(ask(*calls), [0, 1, 2, 3])

    def test_forty_entries(self):
        self.assertEqual(ask(*[objection(7, 0, 0)] * 42), list(range(40)) + [-5, -5])

    def test_the_fortieth_may_be_of_any_sort(self):
        start = [begins(4, [0]), charge(0, 0, 0, 1, 5), charge(0, 0, 0, 2, 5), notice(0, 0, 0, 3)]
        for entry in (transfer(1, 0, 0, 1), charge(1, 0, 0, 1, 1), notice(1, 0, 0, 1), fulfil(1, 2),
                      objection(1, 0, 0), strike(1, 0, 1), ahead(1, 1, 0), correct(1, 0), void(1, 2)):
            self.assertEqual(last(*start, *[objection(1, 0, 0)] * 36, entry), 39, entry)
            self.assertEqual(last(*start, *[objection(1, 0, 0)] * 37, entry), -5, entry)


class TransferTest(unittest.TestCase):
    def test_the_receiver_is_registered(self):
        calls = [begins(3, [0]), transfer(1, 0, 0, 1), transfer(1, 0, 1, 2), transfer(1, 0, 2, 0)]
        self.assertEqual(ask(*calls), [0, 0, 1, 2])

    def test_the_giver_is_registered_no_more(self):
        start = [begins(3, [0]), transfer(1, 0, 0, 1)]
        for entry in (transfer(1, 0, 0, 2), charge(1, 0, 0, 2, 5), notice(1, 0, 0, 2)):
            self.assertEqual(last(*start, entry), -6)
        for entry in (transfer(1, 0, 1, 2), charge(1, 0, 1, 2, 5), notice(1, 0, 1, 2)):
            self.assertEqual(last(*start, entry), 1)

    def test_other_plots_stay(self):
        calls = [begins(3, [0, 0]), transfer(1, 0, 0, 1), transfer(1, 1, 0, 2), transfer(1, 0, 1, 2)]
        self.assertEqual(ask(*calls), [0, 0, 1, 2])

    def test_charges_notices_and_objections_stay(self):
        start = [begins(4, [0]), charge(0, 0, 0, 1, 5), notice(0, 0, 0, 2), objection(0, 0, 3), transfer(1, 0, 0, 1)]
        self.assertEqual(standing_behind(0, *start), [0, 1, 2])
        self.assertEqual(ask(*start, strike(1, 0, 1), fulfil(1, 1), strike(1, 2, 3))[-3:], [4, 5, 6])

    def test_whether_one_knows_hinders_nothing(self):
        calls = [begins(2, [0]), transfer(1, 0, 0, 1, 1), charge(1, 0, 1, 0, 5, 1), notice(1, 0, 1, 0, 1)]
        self.assertEqual(ask(*calls, fulfil(1, 2, 1), transfer(1, 0, 0, 1)), [0, 0, 1, 2, 3, 4])

    def test_whether_one_knows_is_kept_with_the_entry(self):
        for knows in (0, 1):
            calls = [begins(4, [2]), charge(3, 0, 2, 3, 5, knows), notice(3, 0, 2, 3, knows),
                     fulfil(3, 1, knows), transfer(3, 0, 3, 2, knows)]
            self.assertEqual([entry.knows for entry in book_behind(*calls).entries], [knows] * 4)


class ChargeTest(unittest.TestCase):
    def test_places_in_the_order_of_entries(self):
        calls = [begins(4, [0, 0]), charge(1, 0, 0, 1, 30), charge(1, 1, 0, 2, 70), charge(1, 0, 0, 3, 20),
                 charge(2, 0, 0, 1, 30)]
        self.assertEqual(places_behind(0, *calls), [(0, 30), (2, 20), (3, 30)])
        self.assertEqual(places_behind(1, *calls), [(1, 70)])

    def test_the_least_and_the_greatest_amount(self):
        calls = [begins(2, [0]), charge(0, 0, 0, 1, 1), charge(0, 0, 0, 1, 1000000)]
        self.assertEqual(ask(*calls), [0, 0, 1])
        self.assertEqual(places_behind(0, *calls), [(0, 1), (1, 1000000)])

    def test_the_owner_stays(self):
        self.assertEqual(ask(begins(2, [0]), charge(0, 0, 0, 1, 9), transfer(0, 0, 0, 1)), [0, 0, 1])

    def test_it_is_behind_those_that_were_put_ahead(self):
        calls = [begins(2, [0]), charge(0, 0, 0, 1, 5), charge(0, 0, 0, 1, 8), ahead(0, 1, 0), charge(0, 0, 0, 1, 3)]
        self.assertEqual(places_behind(0, *calls), [(1, 5), (1, 3), (0, 5), (3, 3)])


class FulfilTest(unittest.TestCase):
    def around_a_notice(self):
        return [
            begins(9, [0, 0]), charge(1, 0, 0, 1, 10), notice(1, 0, 0, 2), objection(1, 0, 3), notice(2, 0, 0, 4),
            charge(2, 0, 0, 5, 20), notice(3, 0, 0, 6), objection(3, 0, 7), charge(3, 1, 0, 8, 30),
            notice(3, 1, 0, 8), transfer(4, 0, 0, 5), charge(4, 0, 5, 8, 40), fulfil(5, 3)]

    def test_what_was_entered_behind_the_notice_is_gone(self):
        calls = self.around_a_notice()
        self.assertEqual(ask(*calls), [0] + list(range(12)))
        self.assertEqual(standing_behind(0, *calls), [0, 1, 2, 6])
        self.assertEqual(places_behind(0, *calls), [(0, 10)])

    def test_what_is_gone_can_not_be_used(self):
        calls = self.around_a_notice()
        for entry in (fulfil(5, 3), strike(5, 3, 4), strike(5, 4, 5), fulfil(5, 5), strike(5, 5, 6),
                      strike(5, 10, 8), ahead(5, 4, 0)):
            self.assertEqual(last(*calls, entry), -6, entry)

    def test_what_stands_ahead_of_it_and_objections_stay(self):
        calls = self.around_a_notice()
        for entry in (strike(5, 0, 1), strike(5, 1, 2), fulfil(5, 1), strike(5, 2, 3), strike(5, 6, 7)):
            self.assertEqual(last(*calls, entry), 12, entry)

    def test_other_plots_stay(self):
        calls = self.around_a_notice()
        self.assertEqual(standing_behind(1, *calls), [7, 8])
        self.assertEqual(places_behind(1, *calls), [(7, 30)])
        self.assertEqual(last(*calls, transfer(5, 1, 0, 3)), 12)

    def test_the_person_of_the_notice_is_registered(self):
        calls = self.around_a_notice()
        self.assertEqual(last(*calls, transfer(5, 0, 4, 0)), 12)
        self.assertEqual(last(*calls, transfer(5, 0, 5, 0)), -6)
        self.assertEqual(last(*calls, transfer(5, 0, 0, 4)), -6)

    def test_the_person_may_be_registered_already(self):
        calls = [begins(2, [0]), notice(0, 0, 0, 1), transfer(0, 0, 0, 1), fulfil(0, 0), transfer(0, 0, 1, 0)]
        self.assertEqual(ask(*calls), [0, 0, 1, 2, 3])

    def test_a_charge_that_was_put_ahead_goes_with_all_its_places(self):
        calls = [begins(4, [0]), charge(0, 0, 0, 1, 10), notice(0, 0, 0, 2), charge(0, 0, 0, 3, 25),
                 ahead(0, 2, 0), fulfil(0, 1)]
        self.assertEqual(places_behind(0, *calls[:-1]), [(2, 10), (2, 15), (0, 10)])
        self.assertEqual(places_behind(0, *calls), [(0, 10)])


class StrikeTest(unittest.TestCase):
    START = [begins(5, [0]), charge(0, 0, 0, 1, 10), notice(0, 0, 0, 2), objection(0, 0, 3), charge(0, 0, 0, 4, 20)]

    def test_a_charge_a_notice_and_an_objection(self):
        for entry, striker, left in ((0, 1, [1, 2, 3]), (1, 2, [0, 2, 3]), (2, 3, [0, 1, 3]), (3, 4, [0, 1, 2])):
            calls = self.START + [strike(1, entry, striker)]
            self.assertEqual(last(*calls), 4)
            self.assertEqual(standing_behind(0, *calls), left)
            self.assertEqual(last(*calls, strike(1, entry, striker)), -6)

    def test_the_places_of_a_charge_are_gone(self):
        self.assertEqual(places_behind(0, *self.START, strike(1, 0, 1)), [(3, 20)])
        self.assertEqual(places_behind(0, *self.START, strike(1, 3, 4)), [(0, 10)])
        self.assertEqual(places_behind(0, *self.START, ahead(1, 3, 0), strike(1, 3, 4)), [(0, 10)])

    def test_the_places_stay_when_another_is_struck(self):
        self.assertEqual(places_behind(0, *self.START, strike(1, 1, 2), strike(1, 2, 3)), [(0, 10), (3, 20)])

    def test_a_struck_notice_is_not_fulfilled(self):
        self.assertEqual(last(*self.START, strike(1, 1, 2), fulfil(1, 1)), -6)

    def test_a_struck_charge_is_not_put_ahead(self):
        self.assertEqual(last(*self.START, strike(1, 3, 4), ahead(1, 3, 0)), -6)
        self.assertEqual(last(*self.START, strike(1, 0, 1), ahead(1, 3, 0)), -6)


class AheadTest(unittest.TestCase):
    START = [begins(5, [0]), charge(0, 0, 0, 1, 30), charge(0, 0, 0, 2, 10), charge(0, 0, 0, 3, 50)]

    def test_a_greater_charge_ahead_of_a_smaller_one(self):
        self.assertEqual(places_behind(0, *self.START, ahead(0, 2, 0)), [(2, 30), (1, 10), (2, 20), (0, 30)])

    def test_a_smaller_charge_ahead_of_a_greater_one(self):
        self.assertEqual(places_behind(0, *self.START, ahead(0, 1, 0)), [(1, 10), (0, 20), (0, 10), (2, 50)])

    def test_more_than_once(self):
        calls = self.START + [ahead(0, 2, 0), ahead(0, 1, 2)]
        self.assertEqual(places_behind(0, *calls), [(1, 10), (2, 20), (2, 10), (2, 20), (0, 30)])
        calls = calls + [ahead(0, 0, 1)]
        self.assertEqual(places_behind(0, *calls), [(0, 10), (2, 20), (2, 10), (2, 20), (0, 20), (1, 10)])

    def test_what_is_first_shows_in_what_is_refused(self):
        # Behind the entry the order of first places is 2, 1, 0.
        calls = self.START + [ahead(0, 2, 0)]
        for one, other, expected in ((2, 0, -6), (0, 2, 4), (2, 1, -6), (1, 2, 4), (1, 0, -6), (0, 1, 4)):
            self.assertEqual(last(*calls, ahead(0, one, other)), expected, (one, other))

    def test_back_and_forth(self):
        calls = [begins(2, [0]), charge(0, 0, 0, 1, 7), charge(0, 0, 0, 1, 7)]
        for number in range(2, 20):
            calls.append(ahead(0, 1, 0) if number % 2 == 0 else ahead(0, 0, 1))
        self.assertEqual(ask(*calls), [0] + list(range(20)))
        self.assertEqual(places_behind(0, *calls), [(0, 7), (1, 7)])

    def test_a_charge_between_is_struck_afterwards(self):
        calls = self.START + [ahead(0, 2, 0), strike(0, 1, 2)]
        self.assertEqual(places_behind(0, *calls), [(2, 30), (2, 20), (0, 30)])

    def test_other_plots_stay(self):
        calls = [begins(2, [0, 0]), charge(0, 0, 0, 1, 3), charge(0, 1, 0, 1, 4), charge(0, 1, 0, 1, 5)]
        calls += [charge(0, 0, 0, 1, 6), ahead(0, 3, 0)]
        self.assertEqual(places_behind(0, *calls), [(3, 3), (3, 3), (0, 3)])
        self.assertEqual(places_behind(1, *calls), [(1, 4), (2, 5)])
