import unittest

from tests.calling import (
    HIGHEST, ahead, begins, charge, charges, correct, days, fulfil, last_told, notice, objection, owner, owner_behind,
    rely, sale, stands, strike, told, transfer, void)

# Charges 0, 2 and 3 of plot 0, each of another creditor; charge 3 turns out to be void on day 40, charge 5 was given
# by one who is registered by a void transfer to one who knows.
CHARGED = [
    begins(8, [0, 7]), charge(10, 0, 0, 1, 30), charge(10, 1, 7, 1, 500), charge(11, 0, 0, 2, 10),
    charge(12, 0, 0, 3, 50), transfer(13, 0, 0, 4), charge(14, 0, 4, 5, 20, 1)]
VOIDED = [void(40, 3), void(41, 4)]


class ChargesTest(unittest.TestCase):
    def check(self, calls, day, known, rows, plot=0):
        self.assertEqual(last_told(*calls, charges(plot, day, known)), (len(rows), rows), (day, known))

    def test_the_answer_as_it_stands(self):
        self.assertEqual(told(*CHARGED, charges(0, 11, 11))[-1], [2, 4, 0, 1, 30, 1, 4, 2, 2, 10, 1])
        self.assertEqual(told(*CHARGED, charges(0, 9, 11))[-1], [0])

    def test_day_by_day(self):
        rows = [[0, 1, 30, 1], [2, 2, 10, 1], [3, 3, 50, 1], [5, 5, 20, 1]]
        for day, count in ((0, 0), (9, 0), (10, 1), (11, 2), (12, 3), (13, 3), (14, 4), (1000001, 4), (HIGHEST, 4)):
            for known in (0, 39, HIGHEST):
                self.check(CHARGED, day, known, rows[:count])

    def test_as_known_ahead_of_on_and_behind_a_day(self):
        for known, third, fourth in ((39, 1, 1), (40, 0, 1), (41, 0, 0), (42, 0, 0), (HIGHEST, 0, 0)):
            rows = [[0, 1, 30, 1], [2, 2, 10, 1], [3, 3, 50, third], [5, 5, 20, fourth]]
            self.check(CHARGED + VOIDED, 14, known, rows)
            self.check(CHARGED + VOIDED, 50, known, rows)
            self.check(CHARGED + VOIDED, 12, known, rows[:3])

    def test_other_plots(self):
        self.check(CHARGED + VOIDED, 9, 50, [], 1)
        self.check(CHARGED + VOIDED, 10, 50, [[1, 1, 500, 1]], 1)
        self.check(CHARGED + VOIDED, 50, 50, [[1, 1, 500, 1]], 1)

    def test_put_ahead(self):
        calls = CHARGED + [ahead(20, 3, 0), ahead(21, 2, 3)] + VOIDED
        self.check(calls, 19, 19, [[0, 1, 30, 1], [2, 2, 10, 1], [3, 3, 50, 1], [5, 5, 20, 1]])
        rows = [[3, 3, 30, 1], [2, 2, 10, 1], [3, 3, 20, 1], [0, 1, 30, 1], [5, 5, 20, 1]]
        self.check(calls, 20, 39, rows)
        self.check(calls, 20, 40, [row[:3] + [0 if row[0] == 3 else row[3]] for row in rows])
        rows = [[2, 2, 10, 1], [3, 3, 20, 1], [3, 3, 10, 1], [3, 3, 20, 1], [0, 1, 30, 1], [5, 5, 20, 1]]
        self.check(calls, 21, 39, rows)
        self.check(calls, HIGHEST, HIGHEST, [row[:3] + [0 if row[0] in (3, 5) else row[3]] for row in rows])

    def test_struck_and_gone_by_a_fulfilment(self):
        calls = [begins(6, [0]), charge(1, 0, 0, 1, 5), notice(1, 0, 0, 2), charge(2, 0, 0, 3, 6),
                 charge(3, 0, 0, 4, 7), strike(4, 2, 3), ahead(5, 3, 0), fulfil(6, 1)]
        self.check(calls, 3, 0, [[0, 1, 5, 1], [2, 3, 6, 1], [3, 4, 7, 1]])
        self.check(calls, 4, 0, [[0, 1, 5, 1], [3, 4, 7, 1]])
        self.check(calls, 5, 0, [[3, 4, 5, 1], [3, 4, 2, 1], [0, 1, 5, 1]])
        self.check(calls, 6, 0, [[0, 1, 5, 1]])


class SaleTest(unittest.TestCase):
    def check(self, calls, amount, left, rows, day=50, known=50, plot=0):
        self.assertEqual(last_told(*calls, sale(plot, day, known, amount)), (left, rows), amount)

    def test_the_answer_as_it_stands(self):
        self.assertEqual(told(*CHARGED, sale(0, 11, 11, 45))[-1], [5, 3, 0, 1, 30, 3, 2, 2, 10])
        self.assertEqual(told(*CHARGED, sale(0, 9, 9, 45))[-1], [45])

    def test_in_order_as_far_as_it_goes(self):
        for amount, gets, left in ((0, (0, 0, 0, 0), 0), (1, (1, 0, 0, 0), 0), (29, (29, 0, 0, 0), 0),
                                   (30, (30, 0, 0, 0), 0), (31, (30, 1, 0, 0), 0), (40, (30, 10, 0, 0), 0),
                                   (89, (30, 10, 49, 0), 0), (90, (30, 10, 50, 0), 0), (109, (30, 10, 50, 19), 0),
                                   (110, (30, 10, 50, 20), 0), (111, (30, 10, 50, 20), 1),
                                   (1000000, (30, 10, 50, 20), 999890)):
            rows = [[entry, creditor, got] for entry, creditor, got in zip((0, 2, 3, 5), (1, 2, 3, 5), gets)]
            self.check(CHARGED, amount, left, rows)

    def test_what_was_not_truly_given_gets_nothing(self):
        calls = CHARGED + VOIDED
        for known, gets, left in ((39, (30, 10, 50, 10), 0), (40, (30, 10, 0, 20), 40), (41, (30, 10, 0, 0), 60)):
            rows = [[entry, creditor, got] for entry, creditor, got in zip((0, 2, 3, 5), (1, 2, 3, 5), gets)]
            self.check(calls, 100, left, rows, 50, known)

    def test_none_was_truly_given(self):
        calls = [begins(3, [0]), charge(1, 0, 0, 1, 5), charge(1, 0, 0, 2, 6), void(2, 0), void(2, 1)]
        self.check(calls, 1000000, 1000000, [[0, 1, 0], [1, 2, 0]])
        self.check(calls, 0, 0, [[0, 1, 0], [1, 2, 0]])

    def test_day_by_day(self):
        self.check(CHARGED, 100, 100, [], 9, 9)
        self.check(CHARGED, 100, 70, [[0, 1, 30]], 10, 10)
        self.check(CHARGED, 100, 60, [[0, 1, 30], [2, 2, 10]], 11, 0)
        self.check(CHARGED, 100, 60, [[0, 1, 30], [2, 2, 10]], 11, HIGHEST)

    def test_places_apart_from_one_another(self):
        # The places: 30 of charge 3, 10 of charge 2, 20 of charge 3, 30 of charge 0, 20 of charge 5.
        calls = CHARGED + [ahead(20, 3, 0)]
        for amount, third, second, first, fourth, left in (
                (0, 0, 0, 0, 0, 0), (25, 25, 0, 0, 0, 0), (35, 30, 5, 0, 0, 0), (40, 30, 10, 0, 0, 0),
                (55, 45, 10, 0, 0, 0), (60, 50, 10, 0, 0, 0), (80, 50, 10, 20, 0, 0), (100, 50, 10, 30, 10, 0),
                (120, 50, 10, 30, 20, 10)):
            self.check(calls, amount, left, [[3, 3, third], [2, 2, second], [0, 1, first], [5, 5, fourth]])

    def test_places_apart_of_what_was_not_truly_given(self):
        # Places of charge 3 get nothing; the order is still that of first places.
        calls = CHARGED + [ahead(20, 3, 0)] + VOIDED
        for amount, second, first, left in ((5, 5, 0, 0), (10, 10, 0, 0), (39, 10, 29, 0), (40, 10, 30, 0),
                                            (90, 10, 30, 50)):
            self.check(calls, amount, left, [[3, 3, 0], [2, 2, second], [0, 1, first], [5, 5, 0]])

    def test_a_charge_put_ahead_harms_no_third(self):
        for amount in range(0, 120, 7):
            before = last_told(*CHARGED, sale(0, 50, 50, amount))
            behind = last_told(*CHARGED, ahead(20, 3, 0), sale(0, 50, 50, amount))
            gets_before = {row[0]: row[2] for row in before[1]}
            gets_behind = {row[0]: row[2] for row in behind[1]}
            self.assertEqual(before[0], behind[0])
            self.assertEqual(gets_before[2], gets_behind[2])
            self.assertEqual(gets_before[5], gets_behind[5])

    def test_the_greatest_amounts(self):
        calls = [begins(2, [0]), charge(0, 0, 0, 1, 1000000), charge(0, 0, 0, 1, 1000000)]
        self.check(calls, 1000000, 0, [[0, 1, 1000000], [1, 1, 0]])
        self.check(calls + [ahead(0, 1, 0)], 999999, 0, [[1, 1, 999999], [0, 1, 0]])

    def test_charges_of_one_creditor_are_told_apart(self):
        calls = [begins(2, [0]), charge(0, 0, 0, 1, 4), charge(0, 0, 0, 1, 4)]
        self.check(calls, 6, 0, [[0, 1, 4], [1, 1, 2]])

    def test_other_plots(self):
        self.check(CHARGED + VOIDED, 600, 100, [[1, 1, 500]], plot=1)


class StandsTest(unittest.TestCase):
    CALLS = [
        begins(8, [0, 7]), notice(1, 0, 0, 2), charge(1, 0, 0, 3, 5), objection(2, 0, 4), notice(2, 1, 7, 5),
        notice(3, 0, 0, 6), objection(3, 1, 1), objection(4, 0, 0), strike(5, 2, 4), transfer(6, 0, 0, 1),
        fulfil(7, 4), void(8, 0), correct(8, 0), fulfil(9, 0)]

    def check(self, plot, day, rows):
        self.assertEqual(last_told(*self.CALLS, stands(plot, day)), (len(rows), rows), day)

    def test_the_answer_as_it_stands(self):
        self.assertEqual(told(*self.CALLS, stands(0, 2))[-1], [2, 3, 0, 1, 2, 3, 2, 0, 4])
        self.assertEqual(told(*self.CALLS, stands(0, 0))[-1], [0])

    def test_day_by_day(self):
        self.check(0, 1, [[0, 1, 2]])
        self.check(0, 2, [[0, 1, 2], [2, 0, 4]])
        self.check(0, 3, [[0, 1, 2], [2, 0, 4], [4, 1, 6]])
        self.check(0, 4, [[0, 1, 2], [2, 0, 4], [4, 1, 6], [6, 0, 0]])
        for day in (5, 6):
            self.check(0, day, [[0, 1, 2], [4, 1, 6], [6, 0, 0]])
        for day in (7, 8):
            self.check(0, day, [[0, 1, 2], [6, 0, 0]])
        for day in (9, 10, 1000000, 1000001, HIGHEST):
            self.check(0, day, [[6, 0, 0]])

    def test_on_another_plot(self):
        for day in (0, 1):
            self.check(1, day, [])
        self.check(1, 2, [[3, 1, 5]])
        for day in (3, 9, HIGHEST):
            self.check(1, day, [[3, 1, 5], [5, 0, 1]])

    def test_a_fulfilment_takes_later_notices_away_but_no_objections(self):
        calls = [begins(6, [0]), notice(1, 0, 0, 1), objection(1, 0, 2), notice(1, 0, 0, 3), objection(1, 0, 4),
                 fulfil(2, 0)]
        self.assertEqual(last_told(*calls, stands(0, 2)), (2, [[1, 0, 2], [3, 0, 4]]))


class DaysTest(unittest.TestCase):
    CALLS = [
        begins(6, [0, 5]), transfer(10, 0, 0, 1), charge(15, 0, 1, 2, 9), objection(20, 1, 3), transfer(20, 0, 1, 2, 1),
        void(30, 0), correct(31, 0), transfer(31, 1, 5, 4), void(40, 6)]

    def check(self, calls, plot, known, rows):
        self.assertEqual(last_told(*calls, days(plot, known)), (len(rows), rows), (plot, known))

    def test_the_answer_as_it_stands(self):
        self.assertEqual(told(*self.CALLS, days(0, 29))[-1], [4, 3, 0, 0, 0, 3, 10, 1, 1, 3, 20, 2, 2, 3, 31, 0, 2])

    def test_as_known_on_several_days(self):
        for known in (0, 10, 29):
            self.check(self.CALLS, 0, known, [[0, 0, 0], [10, 1, 1], [20, 2, 2], [31, 0, 2]])
        for known in (30, 31, 1000001, HIGHEST):
            self.check(self.CALLS, 0, known, [[0, 0, 0], [10, 1, 0], [20, 2, 0], [31, 0, 0]])

    def test_on_another_plot(self):
        for known in (0, 39):
            self.check(self.CALLS, 1, known, [[0, 5, 5], [31, 4, 4]])
        for known in (40, HIGHEST):
            self.check(self.CALLS, 1, known, [[0, 5, 5], [31, 4, 5]])

    def test_of_day_0_behind_all_its_entries(self):
        calls = [begins(3, [0]), transfer(0, 0, 0, 1), transfer(0, 0, 1, 2), transfer(1, 0, 2, 0)]
        self.check(calls, 0, 0, [[0, 2, 2], [1, 0, 0]])

    def test_without_entries(self):
        self.check([begins(3, [2])], 0, 0, [[0, 2, 2]])
        self.check([], 0, HIGHEST, [[0, 0, 0]])

    def test_several_entries_on_one_day_are_told_once(self):
        calls = [begins(4, [0]), transfer(5, 0, 0, 1), transfer(5, 0, 1, 2), transfer(5, 0, 2, 3),
                 charge(5, 0, 3, 0, 1)]
        self.check(calls, 0, 9, [[0, 0, 0], [5, 3, 3]])

    def test_there_and_back_on_one_day_is_left_out(self):
        calls = [begins(4, [0]), transfer(5, 0, 0, 1), transfer(5, 0, 1, 0), transfer(6, 0, 0, 2)]
        self.check(calls, 0, 9, [[0, 0, 0], [6, 2, 2]])

    def test_there_and_back_on_two_days_is_told(self):
        calls = [begins(4, [0]), transfer(5, 0, 0, 1), transfer(6, 0, 1, 0), transfer(1000000, 0, 0, 1)]
        self.check(calls, 0, 9, [[0, 0, 0], [5, 1, 1], [6, 0, 0], [1000000, 1, 1]])

    def test_one_of_both_changes(self):
        # Who is registered changes alone on day 10 and on day 30, who owns alone never does without an entry.
        calls = [begins(4, [0]), transfer(10, 0, 0, 1), void(20, 0), correct(30, 0)]
        self.check(calls, 0, 20, [[0, 0, 0], [10, 1, 0], [30, 0, 0]])
        self.check(calls, 0, 19, [[0, 0, 0], [10, 1, 1], [30, 0, 1]])

    def test_who_owns_changes_alone(self):
        # The notice's person is registered by a void transfer, and comes to own the plot by the fulfilment.
        calls = [begins(4, [0]), notice(1, 0, 0, 1), transfer(2, 0, 0, 1), fulfil(3, 0), void(4, 1)]
        self.check(calls, 0, 4, [[0, 0, 0], [2, 1, 0], [3, 1, 1]])
        self.check(calls, 0, 3, [[0, 0, 0], [2, 1, 1]])

    def test_days_on_which_something_was_entered_elsewhere_alone(self):
        calls = [begins(4, [0, 0]), transfer(10, 0, 0, 1), objection(12, 1, 3), transfer(14, 1, 0, 2)]
        self.check(calls, 0, 20, [[0, 0, 0], [10, 1, 1]])
        self.check(calls, 1, 20, [[0, 0, 0], [14, 2, 2]])
        for day in (12, 13, 14):
            self.assertEqual(owner_behind(calls, day, 20, 0), [1, 1])

    def test_forty_days(self):
        calls = [begins(2, [0])] + [transfer(day, 0, (day + 1) % 2, day % 2) for day in range(1, 41)]
        rows = [[day, day % 2, day % 2] for day in range(41)]
        self.check(calls, 0, 0, rows)

    def test_each_day_is_as_owner_tells_it(self):
        for plot in (0, 1):
            for known in (0, 29, 30, 40):
                rows = last_told(*self.CALLS, days(plot, known))[1]
                for day in range(50):
                    expected = [row[1:] for row in rows if row[0] <= day][-1]
                    self.assertEqual(owner_behind(self.CALLS, day, known, plot), expected)


class AheadOfAnyBeginsTest(unittest.TestCase):
    def test_all_that_can_be_asked(self):
        asked = [owner(0, 0, 0), charges(0, 5, 5), rely(0, HIGHEST, 0), sale(0, 0, 0, 9), stands(0, 0), days(0, 0)]
        self.assertEqual(told(*asked), [[0, 2, 0, 0], [0], [1], [9], [0], [1, 3, 0, 0, 0]])

    def test_the_other_plots_are_not_there(self):
        asked = [owner(1, 0, 0), charges(1, 5, 5), rely(1, HIGHEST, 0), sale(1, 0, 0, 9), stands(1, 0), days(1, 0)]
        self.assertEqual(told(*asked), [[-1]] * 6)

    def test_entries_of_the_only_person(self):
        calls = [objection(3, 0, 0), correct(4, 0), strike(5, 0, 0), owner(0, 9, 9), stands(0, 3), stands(0, 5),
                 days(0, 9)]
        self.assertEqual(told(*calls)[3:], [[0, 2, 0, 0], [1, 3, 0, 0, 0], [0], [1, 3, 0, 0, 0]])


class BeginsAnewTest(unittest.TestCase):
    def test_nothing_is_left(self):
        calls = CHARGED + VOIDED + [objection(60, 0, 3), begins(3, [2])]
        asked = [owner(0, 99, 99), charges(0, 99, 99), rely(0, 99, 99), sale(0, 99, 99, 9), stands(0, 99), days(0, 99)]
        self.assertEqual(told(*calls, *asked)[-6:], [[0, 2, 2, 2], [0], [1], [9], [0], [1, 3, 0, 2, 2]])
        self.assertEqual(told(*calls, owner(1, 0, 0))[-1], [-1])

    def test_what_was_void_is_not_void_anew(self):
        calls = [begins(3, [0]), transfer(1, 0, 0, 1), void(1, 0), begins(3, [0]), transfer(1, 0, 0, 1)]
        self.assertEqual(owner_behind(calls, 1, 1), [1, 1])
        self.assertEqual(told(*calls, void(1, 0), owner(0, 1, 1))[-2:], [[1], [0, 2, 1, 0]])

    def test_a_refused_begins_leaves_all(self):
        calls = CHARGED + VOIDED + [begins(11, [0])]
        self.assertEqual(owner_behind(calls, 50, 50), [4, 0])
        self.assertEqual(last_told(*calls, charges(0, 50, 50))[0], 4)
