import builtins
import contextlib
import io
import unittest
from unittest import mock

from landregister.registers import answers
from tests.calling import (
    ahead, begins, charge, charges, correct, days, fulfil, handed_in, notice, objection, owner, rely, sale, stands,
    strike, transfer, void)

CALLS = [
    begins(4, [0, 3]), charge(2, 0, 0, 1, 40), charge(2, 0, 0, 2, 60), ahead(3, 1, 0), notice(3, 1, 3, 0),
    objection(4, 1, 2), transfer(4, 1, 3, 1), fulfil(4, 3), strike(5, 4, 2), strike(5, 4, 2), begins(0, [0]),
    void(6, 5), void(6, 6), owner(1, 6, 6), correct(7, 1), owner(1, 7, 6), charges(0, 7, 7), rely(0, 7, 7),
    sale(0, 7, 7, 70), stands(1, 4), days(1, 7), days(2, 7), begins(2, [1]), transfer(0, 0, 1, 0)]
HANDED_IN = handed_in(*CALLS)
EXPECTED = [
    1, 0, 1, 0, 1, 1, 1, 2, 1, 3, 1, 4, 1, 5, 1, 6, 1, 7, 1, -6, 1, -1,
    1, 8, 1, 9, 4, 0, 2, 0, 3, 1, 10, 4, 0, 2, 3, 3,
    16, 3, 4, 1, 2, 40, 1, 4, 1, 2, 20, 1, 4, 0, 1, 40, 1, 1, 1,
    9, 0, 3, 1, 2, 60, 3, 0, 1, 10, 5, 1, 3, 4, 0, 2, 13, 3, 3, 0, 3, 3, 3, 4, 0, 3, 3, 7, 3, 3, 1, -1, 1, 0, 1, 0]


class InterfaceTest(unittest.TestCase):
    def test_each_answer_has_its_length_before_it(self):
        self.assertEqual(answers(list(HANDED_IN)), EXPECTED)

    def test_answers_are_a_list_of_plain_whole_numbers(self):
        given = answers(list(HANDED_IN))
        self.assertIs(type(given), list)
        self.assertEqual({type(number) for number in given}, {int})

    def test_the_numbers_of_the_calls(self):
        start = [0, 5, 1, 0, 2, 1, 0, 0, 1, 30, 0, 2, 1, 0, 0, 2, 20, 0, 3, 1, 0, 0, 3, 0]
        for call in ([1, 1, 0, 0, 4, 1], [2, 1, 0, 0, 4, 9, 1], [3, 1, 0, 0, 4, 1], [4, 1, 2, 1], [5, 1, 0, 4],
                     [6, 1, 0, 1], [7, 1, 1, 0], [8, 1, 0], [9, 1, 0]):
            self.assertEqual(answers(start + call), [1, 0, 1, 0, 1, 1, 1, 2, 1, 3], call)
        for call, expected in (
                ([10, 0, 1, 1], [4, 0, 2, 0, 0]), ([11, 0, 1, 1], [11, 2, 4, 0, 1, 30, 1, 4, 1, 2, 20, 1]),
                ([12, 0, 1, 1], [1, 1]), ([13, 0, 1, 1, 35], [9, 0, 3, 0, 1, 30, 3, 1, 2, 5]),
                ([14, 0, 1], [5, 1, 3, 2, 1, 3]), ([15, 0, 1], [5, 1, 3, 0, 0, 0])):
            self.assertEqual(answers(start + call), [1, 0, 1, 0, 1, 1, 1, 2] + expected, call)

    def test_which_number_is_the_day_and_which_what_is_known(self):
        start = [0, 3, 2, 2, 0, 1, 5, 1, 0, 1, 0, 2, 6, 1, 1, 2, 9, 1, 9, 8, 0]
        for call, expected in (
                ([10, 1, 5, 7], [0, 2, 1, 1]), ([10, 1, 7, 5], [0, 2, 1, 1]), ([10, 1, 5, 8], [0, 2, 1, 0]),
                ([10, 1, 4, 8], [0, 2, 0, 0]), ([10, 0, 5, 8], [0, 2, 2, 2]), ([11, 1, 6, 7], [1, 4, 1, 2, 9, 1]),
                ([11, 1, 6, 8], [1, 4, 1, 2, 9, 0]), ([11, 1, 5, 8], [0]), ([12, 1, 5, 8], [1]),
                ([13, 1, 6, 7, 8], [0, 3, 1, 2, 8]), ([13, 1, 6, 8, 7], [7, 3, 1, 2, 0]), ([14, 1, 8], [0]),
                ([15, 1, 7], [2, 3, 0, 0, 0, 3, 5, 1, 1]), ([15, 1, 8], [2, 3, 0, 0, 0, 3, 5, 1, 0])):
            self.assertEqual(answers(start + call)[8:], [len(expected)] + expected, call)

    def test_the_first_of_ahead_is_the_one_that_is_put_ahead(self):
        start = [0, 5, 1, 0, 2, 1, 0, 0, 1, 30, 0, 2, 1, 0, 0, 2, 20, 0]
        self.assertEqual(answers(start + [7, 1, 0, 1])[-1], -6)

    def test_the_list_is_as_it_was(self):
        calls = list(HANDED_IN)
        answers(calls)
        self.assertEqual(calls, HANDED_IN)

    def test_the_list_is_not_changed_for_a_while_either(self):
        class Unchanged(list):
            def refuse(self, *given):
                raise AssertionError("the list that was handed in is changed")

            append = extend = insert = pop = remove = clear = reverse = sort = refuse
            __setitem__ = __delitem__ = __iadd__ = __imul__ = refuse

        self.assertEqual(answers(Unchanged(HANDED_IN)), EXPECTED)

    def test_a_second_time_is_as_the_first(self):
        calls = list(HANDED_IN)
        first = answers(calls)
        first.append(99)
        self.assertEqual(answers(calls), EXPECTED)

    def test_nothing_is_kept_from_another_register(self):
        answers(begins(10, [9] * 6) + objection(9, 5, 9) + transfer(9, 0, 9, 1) + void(9, 1))
        self.assertEqual(answers(objection(0, 0, 0) + objection(0, 0, 1) + objection(0, 1, 0)), [1, 0, 1, -1, 1, -1])
        self.assertEqual(answers(owner(0, 9, 9) + stands(0, 9) + owner(5, 9, 9)), [4, 0, 2, 0, 0, 1, 0, 1, -1])

    def test_what_is_asked_again_is_answered_again(self):
        given = answers(handed_in(*CALLS[:15], *[days(1, 7), charges(0, 7, 7), sale(0, 7, 7, 70)] * 15))
        once = answers(handed_in(*CALLS[:15], days(1, 7), charges(0, 7, 7), sale(0, 7, 7, 70)))
        head = answers(handed_in(*CALLS[:15]))
        self.assertEqual(given, head + once[len(head):] * 15)

    def test_sixty_calls_and_the_longest_rows(self):
        calls = begins(1, [0] * 60) * 60
        self.assertEqual(answers(calls), [1, -1] * 60)

    def test_nothing_is_printed_read_or_imported(self):
        told = io.StringIO()
        refuse = mock.Mock(side_effect=AssertionError("not allowed"))
        with contextlib.redirect_stdout(told), contextlib.redirect_stderr(told):
            with mock.patch.object(builtins, "open", refuse), mock.patch.object(builtins, "__import__", refuse):
                given = answers(list(HANDED_IN))
        self.assertEqual(given, EXPECTED)
        self.assertEqual(told.getvalue(), "")
