import unittest

from tests.calling import (
    HIGHEST, ask, begins, charge, correct, fulfil, given_behind, last, notice, objection, owner, owner_behind, rely,
    strike, told, transfer, void)

# On plot 0, which person 0 owned, person 1 is registered by a transfer of day 10, which is void, known from day 50 on.
FALSE = [begins(6, [0]), transfer(10, 0, 0, 1)]
KNOWN = 50


def with_void(calls, *entries):
    return calls + [void(KNOWN, entry) for entry in entries]


class RightRegisterTest(unittest.TestCase):
    def test_who_is_registered_owns_where_nothing_is_void(self):
        calls = [begins(5, [0, 1]), transfer(2, 0, 0, 2, 1), objection(3, 0, 4), transfer(3, 0, 2, 3, 1),
                 notice(4, 1, 1, 0, 1), transfer(4, 1, 1, 2), fulfil(5, 3, 1), correct(6, 1)]
        self.assertEqual(ask(*calls), [0] + list(range(7)))
        for day, first, second in ((0, 0, 1), (1, 0, 1), (2, 2, 1), (3, 3, 1), (4, 3, 2), (5, 3, 0), (6, 3, 0),
                                   (7, 3, 0), (1000000, 3, 0), (1000001, 3, 0), (HIGHEST, 3, 0)):
            for known in (0, day, HIGHEST):
                self.assertEqual(owner_behind(calls, day, known, 0), [first, first], day)
                self.assertEqual(owner_behind(calls, day, known, 1), [second, second], day)
                self.assertEqual(told(*calls, rely(0, day, known), rely(1, day, known))[-2:], [[1], [1]])

    def test_the_answer_as_it_stands(self):
        self.assertEqual(told(begins(3, [2]), owner(0, 0, 0))[-1], [0, 2, 2, 2])


class VoidTransferTest(unittest.TestCase):
    def test_ahead_of_on_and_behind_the_day_on_which_it_comes_to_be_known(self):
        calls = with_void(FALSE, 0)
        for known, owns in ((0, 1), (9, 1), (10, 1), (49, 1), (50, 0), (51, 0), (1000001, 0), (HIGHEST, 0)):
            self.assertEqual(owner_behind(calls, 0, known), [0, 0], known)
            self.assertEqual(owner_behind(calls, 9, known), [0, 0], known)
            for day in (10, 11, 49, 50, 51, HIGHEST):
                self.assertEqual(owner_behind(calls, day, known), [1, owns], (day, known))

    def test_voided_on_the_day_on_which_it_was_made(self):
        calls = FALSE + [void(10, 0)]
        self.assertEqual(owner_behind(calls, 10, 9), [1, 1])
        self.assertEqual(owner_behind(calls, 10, 10), [1, 0])
        self.assertEqual(owner_behind(calls, 9, 10), [0, 0])

    def test_on_day_0_and_on_the_last_day(self):
        calls = [begins(3, [0]), transfer(0, 0, 0, 1), void(0, 0)]
        self.assertEqual(owner_behind(calls, 0, 0), [1, 0])
        calls = [begins(3, [0]), transfer(1000000, 0, 0, 1), void(1000000, 0)]
        self.assertEqual(owner_behind(calls, 999999, 1000000), [0, 0])
        self.assertEqual(owner_behind(calls, 1000000, 999999), [1, 1])
        self.assertEqual(owner_behind(calls, 1000000, 1000000), [1, 0])
        self.assertEqual(owner_behind(calls, 1000001, 1000001), [1, 0])

    def test_who_does_not_know_acquires_behind_it(self):
        calls = with_void(FALSE + [transfer(20, 0, 1, 2, 0)], 0)
        self.assertEqual(owner_behind(calls, 19, KNOWN), [1, 0])
        self.assertEqual(owner_behind(calls, 20, KNOWN), [2, 2])
        self.assertEqual(owner_behind(calls, 20, KNOWN - 1), [2, 2])

    def test_who_knows_does_not(self):
        calls = with_void(FALSE + [transfer(20, 0, 1, 2, 1)], 0)
        self.assertEqual(owner_behind(calls, 20, KNOWN), [2, 0])
        self.assertEqual(owner_behind(calls, 20, KNOWN - 1), [2, 2])

    def test_nobody_acquires_while_an_objection_stands(self):
        for knows in (0, 1):
            for person in range(6):
                calls = with_void(FALSE + [objection(15, 0, person), transfer(20, 0, 1, 2, knows)], 0)
                self.assertEqual(owner_behind(calls, 20, KNOWN), [2, 0])
                self.assertEqual(owner_behind(calls, 20, KNOWN - 1), [2, 2])

    def test_an_objection_that_was_struck_hinders_no_more(self):
        start = FALSE + [objection(15, 0, 0), strike(16, 1, 0)]
        self.assertEqual(owner_behind(with_void(start + [transfer(20, 0, 1, 2, 0)], 0), 20, KNOWN), [2, 2])
        self.assertEqual(owner_behind(with_void(start + [transfer(20, 0, 1, 2, 1)], 0), 20, KNOWN), [2, 0])

    def test_one_of_two_objections_is_struck(self):
        calls = FALSE + [objection(15, 0, 0), objection(15, 0, 3), strike(16, 1, 0), transfer(20, 0, 1, 2)]
        self.assertEqual(owner_behind(with_void(calls, 0), 20, KNOWN), [2, 0])

    def test_an_objection_that_comes_later_hinders_nothing(self):
        calls = with_void(FALSE + [transfer(20, 0, 1, 2), objection(20, 0, 0)], 0)
        self.assertEqual(owner_behind(calls, 20, KNOWN), [2, 2])

    def test_an_objection_on_another_plot_hinders_nothing(self):
        calls = [begins(4, [0, 0]), transfer(10, 0, 0, 1), objection(10, 1, 0), transfer(20, 0, 1, 2), void(KNOWN, 0)]
        self.assertEqual(owner_behind(calls, 20, KNOWN), [2, 2])

    def test_charges_and_notices_are_no_objections(self):
        calls = FALSE + [charge(11, 0, 1, 3, 5), notice(11, 0, 1, 4), transfer(20, 0, 1, 2)]
        self.assertEqual(owner_behind(with_void(calls, 0), 20, KNOWN), [2, 2])

    def test_who_owns_may_give_on_to_one_who_knows(self):
        calls = with_void(FALSE + [transfer(20, 0, 1, 2, 0), objection(20, 0, 0), transfer(21, 0, 2, 3, 1)], 0)
        self.assertEqual(owner_behind(calls, 21, KNOWN), [3, 3])

    def test_a_chain_that_stays_false(self):
        calls = FALSE + [transfer(20, 0, 1, 2, 1), transfer(21, 0, 2, 3, 1), transfer(22, 0, 3, 4, 0)]
        self.assertEqual(owner_behind(with_void(calls, 0), 21, KNOWN), [3, 0])
        self.assertEqual(owner_behind(with_void(calls, 0), 22, KNOWN), [4, 4])

    def test_the_true_owner_gets_it_back_from_the_false_one(self):
        calls = with_void(FALSE + [transfer(20, 0, 1, 0, 1)], 0)
        self.assertEqual(owner_behind(calls, 20, KNOWN), [0, 0])
        calls = with_void(FALSE + [transfer(20, 0, 1, 0, 1), transfer(21, 0, 0, 3, 1)], 0)
        self.assertEqual(owner_behind(calls, 21, KNOWN), [3, 3])

    def test_a_later_one_is_void_as_well(self):
        calls = FALSE + [transfer(20, 0, 1, 2), void(30, 1), void(40, 0)]
        for known, owns in ((29, 2), (30, 1), (39, 1), (40, 0)):
            self.assertEqual(owner_behind(calls, 20, known), [2, owns], known)
        calls = FALSE + [transfer(20, 0, 1, 2), void(30, 0), void(40, 1)]
        for known, owns in ((29, 2), (30, 2), (39, 2), (40, 0)):
            self.assertEqual(owner_behind(calls, 20, known), [2, owns], known)

    def test_who_acquires_is_told_by_the_register_just_ahead(self):
        # On one day: the objection stands for the second transfer and not for the first.
        calls = with_void(FALSE + [transfer(20, 0, 1, 2), transfer(20, 0, 2, 1, 1), objection(20, 0, 0)], 0)
        self.assertEqual(owner_behind(calls, 20, KNOWN), [1, 1])

    def test_other_plots_stay(self):
        calls = [begins(4, [0, 3]), transfer(10, 0, 0, 1), transfer(10, 1, 3, 2), void(KNOWN, 0)]
        self.assertEqual(owner_behind(calls, KNOWN, KNOWN, 0), [1, 0])
        self.assertEqual(owner_behind(calls, KNOWN, KNOWN, 1), [2, 2])


class GivenTest(unittest.TestCase):
    def test_a_charge_of_the_owner(self):
        calls = [begins(3, [0]), objection(1, 0, 2), charge(1, 0, 0, 1, 5, 1)]
        self.assertEqual(given_behind(calls, 1, 1), {1: 1})

    def test_a_void_charge(self):
        calls = [begins(3, [0]), charge(1, 0, 0, 1, 5), charge(1, 0, 0, 2, 6), void(KNOWN, 0)]
        self.assertEqual(given_behind(calls, 1, KNOWN - 1), {0: 1, 1: 1})
        self.assertEqual(given_behind(calls, 1, KNOWN), {0: 0, 1: 1})
        self.assertEqual(owner_behind(calls, KNOWN, KNOWN), [0, 0])

    def test_behind_a_void_transfer(self):
        calls = FALSE + [charge(20, 0, 1, 2, 5, 0), charge(20, 0, 1, 2, 5, 1), objection(21, 0, 0),
                         charge(22, 0, 1, 2, 5, 0), charge(22, 0, 1, 2, 5, 1), strike(23, 3, 0),
                         charge(24, 0, 1, 2, 5, 0), charge(24, 0, 1, 2, 5, 1)]
        calls = with_void(calls, 0)
        self.assertEqual(given_behind(calls, KNOWN, KNOWN), {1: 1, 2: 0, 4: 0, 5: 0, 7: 1, 8: 0})
        self.assertEqual(given_behind(calls, KNOWN, KNOWN - 1), {1: 1, 2: 1, 4: 1, 5: 1, 7: 1, 8: 1})

    def test_it_stays_given_whoever_owns_later(self):
        calls = [begins(4, [0]), charge(1, 0, 0, 1, 5, 1), transfer(2, 0, 0, 2), transfer(3, 0, 2, 3, 1), void(4, 1)]
        self.assertEqual(given_behind(calls, 4, 4), {0: 1})

    def test_it_stays_not_given_though_the_register_is_corrected(self):
        calls = FALSE + [charge(20, 0, 1, 2, 5, 1), void(30, 0), correct(30, 0), charge(31, 0, 0, 2, 5, 1)]
        self.assertEqual(given_behind(calls, 31, 31), {1: 0, 4: 1})


class FulfilTest(unittest.TestCase):
    def test_truly_given_and_its_giver_is_registered(self):
        for knows in (0, 1):
            calls = [begins(5, [0]), notice(1, 0, 0, 2, 1), objection(2, 0, 3), fulfil(3, 0, knows)]
            self.assertEqual(owner_behind(calls, 2, 3), [0, 0])
            self.assertEqual(owner_behind(calls, 3, 3), [2, 2])

    def test_truly_given_and_somebody_else_is_registered_and_owns(self):
        for knows in (0, 1):
            calls = [begins(5, [0]), notice(1, 0, 0, 2), transfer(2, 0, 0, 3), objection(2, 0, 3),
                     fulfil(3, 0, knows)]
            self.assertEqual(owner_behind(calls, 2, 3), [3, 3])
            self.assertEqual(owner_behind(calls, 3, 3), [2, 2])

    def test_truly_given_and_somebody_else_is_registered_falsely(self):
        calls = [begins(5, [0]), notice(1, 0, 0, 2), transfer(2, 0, 0, 3), fulfil(3, 0, 1), void(KNOWN, 1)]
        self.assertEqual(owner_behind(calls, 2, KNOWN), [3, 0])
        self.assertEqual(owner_behind(calls, 3, KNOWN), [2, 2])

    def test_given_by_one_who_does_not_own_to_one_who_does_not_know(self):
        # Person 0 has the plot back from day 20 on, yet the notice was truly given.
        calls = with_void(FALSE + [notice(15, 0, 1, 2, 0), transfer(20, 0, 1, 0), fulfil(21, 1, 1)], 0)
        self.assertEqual(owner_behind(calls, 20, KNOWN), [0, 0])
        self.assertEqual(owner_behind(calls, 21, KNOWN), [2, 2])

    def test_not_truly_given_and_its_giver_is_registered(self):
        start = FALSE + [notice(15, 0, 1, 2, 1)]
        self.assertEqual(owner_behind(with_void(start + [fulfil(20, 1, 0)], 0), 20, KNOWN), [2, 2])
        self.assertEqual(owner_behind(with_void(start + [fulfil(20, 1, 1)], 0), 20, KNOWN), [2, 0])
        for knows in (0, 1):
            calls = start + [objection(16, 0, 0), fulfil(20, 1, knows)]
            self.assertEqual(owner_behind(with_void(calls, 0), 20, KNOWN), [2, 0])
            self.assertEqual(owner_behind(with_void(calls, 0), 20, KNOWN - 1), [2, 2])
        calls = start + [objection(16, 0, 0), strike(17, 2, 0), fulfil(20, 1, 0)]
        self.assertEqual(owner_behind(with_void(calls, 0), 20, KNOWN), [2, 2])

    def test_not_truly_given_since_an_objection_stood(self):
        start = FALSE + [objection(14, 0, 0), notice(15, 0, 1, 2, 0)]
        calls = start + [strike(16, 1, 0), fulfil(20, 2, 1)]
        self.assertEqual(owner_behind(with_void(calls, 0), 20, KNOWN), [2, 0])
        calls = start + [strike(16, 1, 0), fulfil(20, 2, 0)]
        self.assertEqual(owner_behind(with_void(calls, 0), 20, KNOWN), [2, 2])

    def test_not_truly_given_and_its_giver_is_registered_and_owns_by_now(self):
        # The giver gets the plot from one who does not know and so owns it.
        calls = FALSE + [notice(15, 0, 1, 2, 1), transfer(16, 0, 1, 3), transfer(17, 0, 3, 1), objection(18, 0, 0),
                         fulfil(20, 1, 1)]
        self.assertEqual(owner_behind(with_void(calls, 0), 18, KNOWN), [1, 1])
        self.assertEqual(owner_behind(with_void(calls, 0), 20, KNOWN), [2, 2])

    def test_not_truly_given_and_somebody_else_is_registered(self):
        for knows in (0, 1):
            # Person 3 is registered and owns, or is registered and does not own: all stays.
            start = FALSE + [notice(15, 0, 1, 2, 1)]
            calls = start + [transfer(16, 0, 1, 3, 0), fulfil(20, 1, knows)]
            self.assertEqual(owner_behind(with_void(calls, 0), 20, KNOWN), [2, 3])
            calls = start + [transfer(16, 0, 1, 3, 1), fulfil(20, 1, knows)]
            self.assertEqual(owner_behind(with_void(calls, 0), 20, KNOWN), [2, 0])
            self.assertEqual(owner_behind(with_void(calls, 0), 20, KNOWN - 1), [2, 2])

    def test_a_void_notice(self):
        start = [begins(5, [0]), notice(1, 0, 0, 2)]
        # Its giver is registered and owns, so its person acquires by the fulfilment, knowing or not.
        for knows in (0, 1):
            calls = start + [objection(2, 0, 4), fulfil(3, 0, knows), void(KNOWN, 0)]
            self.assertEqual(owner_behind(calls, 3, KNOWN), [2, 2])
        # Another one is registered: all stays as it was, once it is known.
        calls = start + [transfer(2, 0, 0, 3), fulfil(3, 0), void(KNOWN, 0)]
        self.assertEqual(owner_behind(calls, 3, KNOWN - 1), [2, 2])
        self.assertEqual(owner_behind(calls, 3, KNOWN), [2, 3])

    def test_a_void_fulfilment(self):
        calls = [begins(5, [0]), notice(1, 0, 0, 2), fulfil(3, 0), void(KNOWN, 1)]
        self.assertEqual(owner_behind(calls, 3, KNOWN - 1), [2, 2])
        self.assertEqual(owner_behind(calls, 3, KNOWN), [2, 0])
        calls = calls[:-1] + [transfer(4, 0, 2, 3, 0), transfer(5, 0, 3, 4, 1), void(KNOWN, 1)]
        self.assertEqual(owner_behind(calls, 4, KNOWN), [3, 3])
        self.assertEqual(owner_behind(calls, 5, KNOWN), [4, 4])
        calls = calls[:3] + [transfer(4, 0, 2, 3, 1), void(KNOWN, 1)]
        self.assertEqual(owner_behind(calls, 4, KNOWN), [3, 0])

    def test_what_a_void_fulfilment_took_away_is_gone_all_the_same(self):
        calls = [begins(5, [0]), notice(1, 0, 0, 2), charge(2, 0, 0, 3, 9), fulfil(3, 0), void(KNOWN, 2)]
        self.assertEqual(given_behind(calls, 2, KNOWN), {1: 1})
        self.assertEqual(given_behind(calls, 3, KNOWN), {})

    def test_a_charge_behind_a_void_fulfilment(self):
        calls = [begins(5, [0]), notice(1, 0, 0, 2), fulfil(3, 0), charge(4, 0, 2, 3, 9, 1), charge(4, 0, 2, 3, 9, 0),
                 void(KNOWN, 1)]
        self.assertEqual(given_behind(calls, 4, KNOWN - 1), {2: 1, 3: 1})
        self.assertEqual(given_behind(calls, 4, KNOWN), {2: 0, 3: 1})


class CorrectTest(unittest.TestCase):
    def test_who_truly_owns_is_registered(self):
        calls = with_void(FALSE, 0) + [correct(60, 0)]
        self.assertEqual(owner_behind(calls, 59, 60), [1, 0])
        for known, owns in ((49, 1), (50, 0), (60, 0), (HIGHEST, 0)):
            self.assertEqual(owner_behind(calls, 60, known), [0, owns], known)

    def test_it_counts_for_what_may_be_made(self):
        calls = with_void(FALSE, 0) + [correct(60, 0)]
        self.assertEqual(last(*calls, transfer(60, 0, 0, 3)), 3)
        self.assertEqual(last(*calls, transfer(60, 0, 1, 3)), -6)

    def test_on_the_very_day_of_the_void_entry(self):
        calls = FALSE + [void(10, 0), correct(10, 0)]
        self.assertEqual(owner_behind(calls, 10, 10), [0, 0])
        calls = FALSE + [correct(10, 0), void(10, 0)]
        self.assertEqual(owner_behind(calls, 10, 10), [1, 0])

    def test_what_comes_to_be_known_later_does_not_change_the_register(self):
        calls = FALSE + [transfer(20, 0, 1, 2), correct(30, 0), void(40, 1)]
        self.assertEqual(owner_behind(calls, 30, 40), [2, 1])
        calls += [correct(41, 0), void(42, 0)]
        self.assertEqual(owner_behind(calls, 40, 42), [2, 0])
        self.assertEqual(owner_behind(calls, 41, 41), [1, 1])
        self.assertEqual(owner_behind(calls, 41, 42), [1, 0])
        calls += [correct(43, 0)]
        self.assertEqual(owner_behind(calls, 43, 43), [0, 0])
        self.assertEqual(owner_behind(calls, 43, 30), [0, 2])

    def test_where_the_register_is_right_it_changes_nothing(self):
        calls = [begins(3, [0]), correct(0, 0), transfer(1, 0, 0, 2), correct(1, 0)]
        self.assertEqual(owner_behind(calls, 0, 0), [0, 0])
        self.assertEqual(owner_behind(calls, 1, 1), [2, 2])

    def test_who_acquired_stays_registered(self):
        calls = FALSE + [transfer(20, 0, 1, 2, 0), void(30, 0), correct(31, 0)]
        self.assertEqual(owner_behind(calls, 31, 31), [2, 2])

    def test_behind_a_void_notice_and_a_void_fulfilment(self):
        start = [begins(5, [0]), notice(1, 0, 0, 2), transfer(2, 0, 0, 3), fulfil(3, 0)]
        self.assertEqual(owner_behind(start + [void(4, 0), correct(5, 0)], 5, 5), [3, 3])
        self.assertEqual(owner_behind(start + [void(4, 2), correct(5, 0)], 5, 5), [3, 3])
        self.assertEqual(owner_behind(start + [void(4, 1), correct(5, 0)], 5, 5), [2, 2])

    def test_objections_and_notices_go_on_standing(self):
        calls = FALSE + [notice(11, 0, 1, 2), objection(11, 0, 0), void(12, 0), correct(12, 0)]
        self.assertEqual(ask(*calls, fulfil(12, 1), strike(12, 2, 0))[-2:], [5, 6])

    def test_of_its_plot_alone(self):
        calls = [begins(4, [0, 0]), transfer(1, 0, 0, 1), transfer(1, 1, 0, 1), void(2, 0), void(2, 1), correct(3, 1)]
        self.assertEqual(owner_behind(calls, 3, 3, 0), [1, 0])
        self.assertEqual(owner_behind(calls, 3, 3, 1), [0, 0])

    def test_who_acquires_from_the_one_who_was_corrected_to(self):
        # Person 0 is registered again by the correction, but turns out to own nothing as known later.
        calls = FALSE + [void(20, 0), correct(21, 0), transfer(22, 0, 0, 3, 1)]
        self.assertEqual(owner_behind(calls, 22, 19), [3, 1])
        self.assertEqual(owner_behind(calls, 22, 20), [3, 3])


class RelyTest(unittest.TestCase):
    def check(self, calls, day, known, expected):
        self.assertEqual(told(*calls, rely(0, day, known))[-1], [expected], (day, known))

    def test_a_right_register(self):
        for known in (0, 9, HIGHEST):
            self.check([begins(3, [0]), objection(1, 0, 2)], 1, known, 1)
            self.check([begins(3, [0]), transfer(1, 0, 0, 1)], 1, known, 1)

    def test_a_false_one_without_an_objection(self):
        calls = with_void(FALSE, 0)
        for day in (9, 10, 60):
            for known in (49, 50, 51):
                self.check(calls, day, known, 1)

    def test_a_false_one_with_an_objection(self):
        calls = with_void(FALSE + [objection(20, 0, 0), strike(30, 1, 0)], 0)
        for day, expected in ((0, 1), (9, 1), (10, 1), (19, 1), (20, 0), (29, 0), (30, 1), (31, 1), (60, 1)):
            self.check(calls, day, 49, 1)
            self.check(calls, day, 50, expected)
            self.check(calls, day, 1000001, expected)

    def test_the_objection_is_told_behind_all_entries_of_the_day(self):
        self.check(with_void(FALSE + [objection(10, 0, 0)], 0), 10, KNOWN, 0)
        self.check(with_void(FALSE + [objection(10, 0, 0), strike(10, 1, 0)], 0), 10, KNOWN, 1)

    def test_an_objection_behind_a_correction(self):
        calls = FALSE + [objection(11, 0, 0), void(12, 0), correct(13, 0)]
        self.check(calls, 12, 11, 1)
        self.check(calls, 12, 12, 0)
        self.check(calls, 13, 12, 1)
        # As known ahead of the void entry it is the corrected register that is false.
        self.check(calls, 13, 11, 0)

    def test_an_objection_on_another_plot(self):
        calls = [begins(3, [0, 0]), transfer(1, 0, 0, 1), objection(1, 1, 0), void(2, 0)]
        self.check(calls, 2, 2, 1)

    def test_charges_and_notices_hinder_nothing(self):
        self.check(with_void(FALSE + [charge(20, 0, 1, 3, 5), notice(20, 0, 1, 4)], 0), 20, KNOWN, 1)
