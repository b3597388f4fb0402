"""The interface: how the list holds the calls, how the answers are given back, what is kept."""

import contextlib
import io
import unittest

from formoffices.offices import answers
from tests.lines import LineCase, begin, cut, deliver, keep, memory, send, take, up


class TheFlatList(unittest.TestCase):
    def test_each_answer_has_its_count_ahead_of_it(self):
        calls = [0, 1, 1, 0, 3, 7, 0, 55, 2, 0, 11, 0, 11, 9]
        self.assertEqual(answers(calls), [1, 0, 2, 0, 1, 2, 0, 1, 5, 0, 3, 7, 0, 55, 1, -1])

    def test_each_of_the_twelve_calls_takes_as_many_numbers_as_told(self):
        calls = [
            0, 2,
            1, 0, 20, 1000, 0, 999,
            6, 0, 3,
            10, 1,
            8, 1,
            9, 2,
            2, 3,
            7, 3,
            3, 2, 1,
            5, 2,
            4, 1,
            11, 3,
        ]
        expected = [
            1, 0,
            2, 0, 1,
            2, 0, 1,
            2, 0, 2,
            2, 0, 1,
            1, 0,
            3, 0, 1, 3,
            2, 0, 4,
            1, 0,
            3, 0, 0, 0,
            1, 0,
            5, 0, 20, 1000, 0, 999,
        ]
        self.assertEqual(answers(calls), expected)

    def test_one_call_alone(self):
        self.assertEqual(answers([0, 4]), [1, 0])
        self.assertEqual(answers([0, 5]), [1, -1])
        self.assertEqual(answers([11, 0]), [1, -7])

    def test_an_empty_book_is_told_by_the_0_alone(self):
        self.assertEqual(answers([0, 1, 11, 0]), [1, 0, 1, 0])

    def test_answers_are_whole_numbers_and_no_truths(self):
        calls = [0, 1, 1, 0, 1, 1, 1, 9, 1, 0, 1, 1, 0, 9, 6, 0, 1, 4, 1, 8, 1, 5, 1, 3, 0, 1, 5, 0, 11, 0]
        told = answers(calls)
        self.assertIs(type(told), list)
        self.assertEqual({type(number) for number in told}, {int})

    def test_what_is_handed_in_stays_as_it_was(self):
        calls = [0, 1, 1, 0, 2, 2, 1, 8, 6, 0, 1, 10, 1, 8, 1, 2, 1, 8, 3, 9, 2, 11, 1]
        before = list(calls)
        answers(calls)
        self.assertEqual(calls, before)

    def test_nothing_is_printed(self):
        said = io.StringIO()
        with contextlib.redirect_stdout(said), contextlib.redirect_stderr(said):
            answers([0, 1, 1, 0, 1, 1, 0, 1, 2, 0, 11, 7])
        self.assertEqual(said.getvalue(), "")


class NothingIsKept(LineCase):
    def test_a_line_begins_with_nothing_whatever_was_asked_before(self):
        answers([0, 2, 1, 0, 1, 1, 0, 5, 2, 0, 6, 0, 2])
        self.assertEqual(answers([11, 0]), [1, -7])
        self.assertEqual(answers([8, 1]), [1, -7])

    def test_the_same_line_has_the_same_answers_again(self):
        calls = [0, 1, 1, 0, 1, 1, 0, 5, 6, 0, 1, 8, 1, 2, 1, 8, 2, 6, 0, 1, 2, 0, 11, 1]
        first = answers(calls)
        self.assertEqual(answers(calls), first)
        self.assertEqual(answers(calls), first)

    def test_what_is_given_back_is_the_askers_own(self):
        calls = [0, 1, 1, 0, 1, 1, 0, 5, 11, 0]
        told = answers(calls)
        expected = list(told)
        told.append(7)
        self.assertEqual(answers(calls), expected)


class ASecondBegin(LineCase):
    def test_memories_slots_receipts_and_messages_are_new(self):
        self.check(
            (begin(1), [0]),
            (take(0, 1, 1, 0, 5), [0, 1]),
            (keep(0), [0, 1]),
            (send(0, 1), [0, 1]),
            (deliver(1), [0, 1]),
            (keep(1), [0, 1, 2]),
            (deliver(2), [0, 1]),
            (send(0, 2), [0, 3]),
            (send(0, 1), [-4]),
            (begin(1), [0]),
            (deliver(3), [-4]),
            (memory(0), [0]),
            (memory(1), [0]),
            (cut(0), [0]),
            (up(0), [0, 0, 0]),
            (keep(1), [0, 1]),
            (take(0, 1, 1, 0, 5), [0, 1]),
            (send(0, 1), [0, 1]),
        )

    def test_what_a_centre_owed_is_gone(self):
        self.check(
            (begin(1), [0]),
            (take(0, 1, 1, 0, 5), [0, 1]),
            (send(0, 1), [0, 1]),
            (deliver(1), [0, 1]),
            (begin(1), [0]),
            (keep(1), [0, 1]),
        )

    def test_all_nodes_have_power_and_are_as_many_as_told(self):
        self.check(
            (begin(2), [0]),
            (cut(0), [0]),
            (cut(3), [0]),
            (begin(1), [0]),
            (memory(0), [0]),
            (memory(1), [0]),
            (memory(2), [0]),
            (memory(3), [-1]),
            (begin(4), [0]),
            (memory(5), [0]),
            (memory(6), [-1]),
        )

    def test_a_refused_begin_leaves_all_as_it_was(self):
        self.check(
            (begin(1), [0]),
            (take(0, 1, 1, 0, 5), [0, 1]),
            (send(0, 1), [0, 1]),
            (begin(5), [-1]),
            (begin(0), [-1]),
            (memory(0), [0, 1, 1, 0, 5]),
            (deliver(1), [0, 1]),
            (keep(1), [0, 1, 2]),
        )


if __name__ == "__main__":
    unittest.main()
