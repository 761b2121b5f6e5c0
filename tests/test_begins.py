import unittest

from tests.calling import HIGHEST, ask, begins, charge, last, objection, strike, transfer


class BeginsTest(unittest.TestCase):
    def test_answers_zero(self):
        self.assertEqual(ask(begins(3, [0, 1, 2])), [0])

    def test_every_size_that_is_allowed(self):
        for persons in range(1, 11):
            for plots in range(1, 7):
                self.assertEqual(ask(begins(persons, [persons - 1] * plots)), [0], (persons, plots))

    def test_each_plot_has_its_owner(self):
        owners = [9, 0, 4, 4, 2, 7]
        for plot, owner in enumerate(owners):
            for giver in range(10):
                receiver = (giver + 1) % 10
                expected = 0 if giver == owner else -6
                self.assertEqual(last(begins(10, owners), transfer(0, plot, giver, receiver)), expected)

    def test_there_are_so_many_persons_and_plots(self):
        start = begins(10, [9] * 6)
        self.assertEqual(ask(start, objection(0, 5, 9)), [0, 0])
        self.assertEqual(ask(start, objection(0, 6, 9)), [0, -1])
        self.assertEqual(ask(start, objection(0, 5, 10)), [0, -1])

    def test_wrong_number_of_persons(self):
        for persons in (0, 11, 12, 1000000, HIGHEST):
            self.assertEqual(ask(begins(persons, [0])), [-1], persons)

    def test_wrong_number_of_plots(self):
        for plots in (0, 7, 8, 60):
            self.assertEqual(ask(begins(2, [1] * plots)), [-1], plots)

    def test_owner_who_is_not_there(self):
        self.assertEqual(ask(begins(1, [1])), [-1])
        self.assertEqual(ask(begins(10, [10])), [-1])
        self.assertEqual(ask(begins(3, [0, 1, 3])), [-1])
        self.assertEqual(ask(begins(3, [3, 1, 0])), [-1])
        self.assertEqual(ask(begins(3, [0, HIGHEST, 0])), [-1])

    def test_several_wrongs_at_once(self):
        self.assertEqual(ask(begins(0, [])), [-1])
        self.assertEqual(ask(begins(11, [11] * 7)), [-1])


class AheadOfAnyBeginsTest(unittest.TestCase):
    def test_one_person_and_one_plot(self):
        self.assertEqual(ask(objection(0, 0, 0)), [0])
        self.assertEqual(ask(objection(0, 1, 0)), [-1])
        self.assertEqual(ask(objection(0, 0, 1)), [-1])

    def test_the_only_person_has_nobody_to_give_to(self):
        self.assertEqual(ask(transfer(0, 0, 0, 0)), [-1])
        self.assertEqual(ask(transfer(0, 0, 0, 1)), [-1])
        self.assertEqual(ask(transfer(0, 0, 1, 0)), [-1])

    def test_entries_are_made_and_struck(self):
        self.assertEqual(ask(objection(3, 0, 0), strike(3, 0, 0), strike(3, 0, 0)), [0, 1, -6])


class BeginsAnewTest(unittest.TestCase):
    def test_entries_and_days_are_gone(self):
        calls = [begins(3, [0]), transfer(9, 0, 0, 1), charge(9, 0, 1, 2, 5)]
        calls += [begins(3, [0]), strike(0, 1, 2), charge(0, 0, 0, 2, 5), strike(0, 0, 2)]
        self.assertEqual(ask(*calls), [0, 0, 1, 0, -2, 0, 1])

    def test_owners_are_the_new_ones(self):
        calls = [begins(3, [0]), transfer(9, 0, 0, 1), begins(3, [0, 2])]
        self.assertEqual(ask(*calls, transfer(1, 0, 1, 2)), [0, 0, 0, -6])
        self.assertEqual(ask(*calls, transfer(1, 0, 0, 2)), [0, 0, 0, 0])
        self.assertEqual(ask(*calls, transfer(1, 1, 2, 0)), [0, 0, 0, 0])

    def test_persons_and_plots_may_be_fewer(self):
        calls = [begins(5, [0, 1, 2]), begins(2, [1])]
        self.assertEqual(ask(*calls, objection(0, 0, 2)), [0, 0, -1])
        self.assertEqual(ask(*calls, objection(0, 1, 1)), [0, 0, -1])

    def test_behind_forty_entries(self):
        full = [begins(1, [0])] + [objection(1, 0, 0)] * 40
        self.assertEqual(ask(*full, objection(1, 0, 0), begins(1, [0]), objection(0, 0, 0))[-3:], [-5, 0, 0])

    def test_all_is_as_it_was_behind_a_refusal(self):
        for wrong in (begins(0, [0]), begins(11, [0]), begins(2, []), begins(2, [0] * 7), begins(2, [0, 2])):
            calls = [begins(3, [0, 1]), transfer(4, 0, 0, 2), charge(4, 1, 1, 2, 7), wrong]
            self.assertEqual(ask(*calls, objection(3, 0, 0)), [0, 0, 1, -1, -4])
            self.assertEqual(ask(*calls, transfer(4, 0, 2, 1)), [0, 0, 1, -1, 2])
            self.assertEqual(ask(*calls, strike(4, 1, 2), objection(4, 1, 2)), [0, 0, 1, -1, 2, 3])
