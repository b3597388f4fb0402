"""The interface: how the list holds the calls, how the answers are given back, what is kept."""

import contextlib
import io
import unittest

from formoffices.offices import answers
from tests.lines import (
    LineCase, acknowledged, answers_of, ask, begin, cut, deliver, disk, double, even, flight, keep, lacks, lose, memory,
    message, owed, receipts, send, settle, state, take, taken, torn, up,
)

FAR = 10 ** 18

# Each call with numbers that it takes behind LINE_TAKEN: of office 0, centre 2, node 1 and message 3.
LINE_TAKEN = [begin(2), take(0, 1, 1, 0, 5), ask(2), ask(2), ask(3), cut(1)]
TAKEN_CALLS = [
    begin(2), take(0, 2, 1, 0, 0), keep(2), torn(2, 1), cut(2), up(1), send(0, 2), ask(2), deliver(3), lose(3),
    double(3), memory(2), disk(1), receipts(0), flight(), message(3), acknowledged(), lacks(0, 2), even(), settle(),
    state(), owed(2), taken(),
]
CALLS_ON_A_MESSAGE = [deliver(3), lose(3), double(3), message(3)]


class Untouched(list):
    """A list that nothing may change."""

    def refuse(self, *told):
        raise AssertionError("what was handed in is changed")

    append = extend = insert = remove = pop = clear = sort = reverse = refuse
    __setitem__ = __delitem__ = __iadd__ = __imul__ = refuse


class TheFlatList(unittest.TestCase):
    def test_each_answer_has_its_count_ahead_of_it(self):
        calls = [0, 1, 1, 0, 3, 7, 0, 55, 2, 0, 11, 0, 11, 9]
        self.assertEqual(answers(calls), [1, 0, 2, 0, 1, 2, 0, 1, 5, 0, 3, 7, 0, 55, 1, -1])

    def test_each_of_the_twelve_calls_takes_as_many_numbers_as_told(self):
        calls = [
            0, 2,
            1, 0, 20, 1000, 0, 999,
            6, 0, 3,
            10, 1,
            8, 1,
            9, 2,
            2, 3,
            7, 3,
            3, 2, 1,
            5, 2,
            4, 1,
            11, 3,
        ]
        expected = [
            1, 0,
            2, 0, 1,
            2, 0, 1,
            2, 0, 2,
            2, 0, 1,
            1, 0,
            3, 0, 1, 3,
            2, 0, 4,
            1, 0,
            3, 0, 0, 0,
            1, 0,
            5, 0, 20, 1000, 0, 999,
        ]
        self.assertEqual(answers(calls), expected)

    def test_each_of_the_other_calls_takes_as_many_numbers_as_told(self):
        calls = [
            0, 2,
            1, 0, 20, 1000, 0, 999,
            6, 0, 3,
            12, 0,
            13, 0,
            14,
            15, 1,
            16,
            17, 0, 3,
            18,
            20,
            8, 1,
            21, 3,
            22,
            2, 3,
            8, 2,
            13, 0,
            16,
            12, 3,
            19,
            18,
            20,
            14,
        ]
        expected = [
            1, 0,
            2, 0, 1,
            2, 0, 1,
            5, 0, 0, 0, 0, 0,
            1, 0,
            6, 0, 1, 1, 0, 3, 1,
            5, 0, 20, 1000, 0, 999,
            1, 0,
            2, 0, 20,
            2, 0, 0,
            17, 0, 1, 0, 1, 0, 1, 0, 0, 0, 1, 0, 0, 0, 1, 0, 0, 0,
            2, 0, 1,
            6, 0, 0, 20, 1000, 0, 999,
            5, 0, 20, 1000, 0, 999,
            3, 0, 1, 2,
            2, 0, 1,
            3, 0, 20, 3,
            6, 0, 3, 20, 1000, 0, 999,
            9, 0, 1, 1, 0, 0, 20, 1000, 0, 999,
            2, 0, 4,
            2, 0, 1,
            17, 0, 1, 1, 1, 0, 1, 1, 0, 0, 1, 2, 1, 0, 1, 3, 1, 0,
            1, 0,
        ]
        self.assertEqual(answers(calls), expected)

    def test_each_call_ahead_of_a_begin_takes_as_many_numbers_as_told(self):
        for call in TAKEN_CALLS[1:]:
            self.assertEqual(answers(call + [0, 1] + [22]), [1, -7, 1, 0, 1, 0], call)

    def test_one_call_alone(self):
        self.assertEqual(answers([0, 4]), [1, 0])
        self.assertEqual(answers([0, 5]), [1, -1])
        self.assertEqual(answers([11, 0]), [1, -7])
        for call in (14, 16, 18, 19, 20, 22):
            self.assertEqual(answers([call]), [1, -7])

    def test_what_is_empty_is_told_by_the_0_alone(self):
        for call in ([11, 0], [13, 0], [14], [16], [17, 0, 1], [21, 1], [22]):
            self.assertEqual(answers([0, 1] + call), [1, 0, 1, 0])

    def test_answers_are_whole_numbers_and_no_truths(self):
        calls = [0, 1, 1, 0, 1, 1, 1, 9, 1, 0, 1, 1, 0, 9, 6, 0, 1, 4, 1, 8, 1, 5, 1, 3, 0, 1, 5, 0, 11, 0]
        calls += [12, 0, 18, 20, 14, 4, 2, 18, 20, 19, 18, 20, 13, 0, 16, 17, 1, 0, 22]
        told = answers(calls)
        self.assertIs(type(told), list)
        self.assertEqual({type(number) for number in told}, {int})

    def test_what_is_handed_in_stays_as_it_was(self):
        calls = [0, 1, 1, 0, 2, 2, 1, 8, 6, 0, 1, 10, 1, 8, 1, 2, 1, 8, 3, 9, 2, 11, 1]
        calls += [4, 0, 19, 12, 1, 13, 0, 14, 15, 7, 16, 17, 0, 1, 18, 20, 21, 1, 22, 19]
        before = list(calls)
        answers(calls)
        self.assertEqual(calls, before)

    def test_what_is_handed_in_is_not_changed_for_a_while_either(self):
        calls = [0, 1, 1, 0, 2, 2, 1, 8, 6, 0, 1, 8, 1, 2, 1, 19, 12, 1, 14, 22]
        self.assertEqual(answers(Untouched(calls)), answers(calls))

    def test_nothing_is_printed(self):
        said = io.StringIO()
        with contextlib.redirect_stdout(said), contextlib.redirect_stderr(said):
            answers([0, 1, 1, 0, 1, 1, 0, 1, 2, 0, 11, 7])
        self.assertEqual(said.getvalue(), "")


class FarNumbers(LineCase):
    def test_the_calls_are_taken_as_they_stand(self):
        for call in TAKEN_CALLS:
            self.assertEqual(answers_of(LINE_TAKEN + [call])[-1][0], 0, call)

    def test_in_each_place_of_each_call(self):
        for call in TAKEN_CALLS:
            for place in range(1, len(call)):
                for far in (FAR, -FAR, FAR - 1, 2 ** 31, -(2 ** 63)):
                    changed = call[:place] + [far] + call[place + 1:]
                    expected = [-4] if call in CALLS_ON_A_MESSAGE else [-1]
                    found = answers_of(LINE_TAKEN + [changed, state(), flight(), taken()])[-4:]
                    self.assertEqual(found[0], expected, changed)
                    self.assertEqual(found[1:], answers_of(LINE_TAKEN + [state(), flight(), taken()])[-3:], changed)

    def test_in_all_places_and_ahead_of_a_begin(self):
        for call in TAKEN_CALLS:
            for far in (FAR, -FAR):
                changed = call[:1] + [far] * (len(call) - 1)
                self.assertEqual(answers_of([changed])[0], [-1] if call[0] == 0 else [-7])


class LongLists(LineCase):
    def test_two_hundred_calls_and_twelve_settles(self):
        line = [begin(4)]
        for version in range(1, 12):
            for form in range(1, 14):
                line.append(take(form % 4, form, version, version % 2, form))
            line += [send(form % 4, 4), cut(version % 6), settle(), even()]
        line += [settle(), even()]
        line += [disk(4), disk(5)] * 4 + [state(), flight()]
        self.assertEqual(len(line), 200)
        found = answers_of(line)
        self.assertEqual(line.count(settle()), 12)
        evens = [answer for call, answer in zip(line, found) if call == even()]
        self.assertEqual(evens, [[0, 1]] * 12)
        self.assertEqual(found[-1], [0])
        self.assertEqual(found[-2][-4:], [1, 24, 13, 0])

    def test_many_numbers_are_answered(self):
        line = [begin(4)] + [take(3, number % 20 + 1, 1, 0, number) for number in range(100)]
        told = []
        for number in range(100):
            told += [number % 20 + 1, 1, 0, number]
        found = answers_of(line + [taken()] * 99)
        self.assertEqual(found[-99:], [[0] + told] * 99)


class NothingIsKept(LineCase):
    def test_a_line_begins_with_nothing_whatever_was_asked_before(self):
        answers([0, 2, 1, 0, 1, 1, 0, 5, 2, 0, 6, 0, 2])
        self.assertEqual(answers([11, 0]), [1, -7])
        self.assertEqual(answers([8, 1]), [1, -7])
        answers([0, 2, 1, 0, 1, 1, 0, 5, 19])
        for call in (14, 16, 18, 19, 20, 22):
            self.assertEqual(answers([call]), [1, -7])
        self.assertEqual(answers([0, 1, 22, 16, 14]), [1, 0, 1, 0, 1, 0, 1, 0])
        self.assertEqual(answers([0, 1, 12, 0, 7, 1]), [1, 0, 5, 0, 0, 0, 0, 0, 2, 0, 1])

    def test_the_same_line_has_the_same_answers_again(self):
        calls = [0, 1, 1, 0, 1, 1, 0, 5, 6, 0, 1, 8, 1, 2, 1, 8, 2, 6, 0, 1, 2, 0, 11, 1, 19, 16, 22, 20, 12, 1]
        first = answers(calls)
        self.assertEqual(answers(calls), first)
        self.assertEqual(answers(calls), first)

    def test_what_is_given_back_is_the_askers_own(self):
        calls = [0, 1, 1, 0, 1, 1, 0, 5, 11, 0]
        told = answers(calls)
        expected = list(told)
        told.append(7)
        self.assertEqual(answers(calls), expected)


class ASecondBegin(LineCase):
    def test_memories_slots_receipts_and_messages_are_new(self):
        self.check(
            (begin(1), [0]),
            (take(0, 1, 1, 0, 5), [0, 1]),
            (keep(0), [0, 1]),
            (send(0, 1), [0, 1]),
            (deliver(1), [0, 1]),
            (keep(1), [0, 1, 2]),
            (deliver(2), [0, 1]),
            (send(0, 2), [0, 3]),
            (send(0, 1), [-4]),
            (begin(1), [0]),
            (deliver(3), [-4]),
            (memory(0), [0]),
            (memory(1), [0]),
            (cut(0), [0]),
            (up(0), [0, 0, 0]),
            (keep(1), [0, 1]),
            (take(0, 1, 1, 0, 5), [0, 1]),
            (send(0, 1), [0, 1]),
        )

    def test_what_a_centre_owed_is_gone(self):
        self.check(
            (begin(1), [0]),
            (take(0, 1, 1, 0, 5), [0, 1]),
            (send(0, 1), [0, 1]),
            (deliver(1), [0, 1]),
            (begin(1), [0]),
            (keep(1), [0, 1]),
        )

    def test_all_nodes_have_power_and_are_as_many_as_told(self):
        self.check(
            (begin(2), [0]),
            (cut(0), [0]),
            (cut(3), [0]),
            (begin(1), [0]),
            (memory(0), [0]),
            (memory(1), [0]),
            (memory(2), [0]),
            (memory(3), [-1]),
            (begin(4), [0]),
            (memory(5), [0]),
            (memory(6), [-1]),
        )

    def test_all_that_is_told_is_new(self):
        self.check(
            (begin(1), [0]),
            (take(0, 1, 1, 0, 5), [0, 1]),
            (settle(), [0, 6]),
            (keep(1), [0, 3]),
            (ask(1), [0, 7]),
            (begin(2), [0]),
            (state(), [0] + [1, 0, 0, 0] * 4),
            (disk(0), [0, 0, 0, 0, 0]),
            (disk(1), [0, 0, 0, 0, 0]),
            (disk(2), [0, 0, 0, 0, 0]),
            (receipts(0), [0]),
            (flight(), [0]),
            (message(7), [-4]),
            (acknowledged(), [0]),
            (taken(), [0]),
            (owed(2), [0]),
            (lacks(0, 2), [0]),
            (even(), [0, 1]),
            (settle(), [0, 2]),
            (ask(2), [0, 3]),
        )

    def test_a_refused_begin_leaves_all_as_it_was(self):
        self.check(
            (begin(1), [0]),
            (take(0, 1, 1, 0, 5), [0, 1]),
            (send(0, 1), [0, 1]),
            (begin(5), [-1]),
            (begin(0), [-1]),
            (memory(0), [0, 1, 1, 0, 5]),
            (deliver(1), [0, 1]),
            (keep(1), [0, 1, 2]),
        )


if __name__ == "__main__":
    unittest.main()
