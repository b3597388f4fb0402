"""What disk tells of the slots, and what state tells of all nodes."""

import unittest

from tests.lines import (
    LineCase, answers_of, ask, begin, cut, deliver, disk, keep, lose, memory, receipts, send, state, take, torn, up,
)

FIRST = take(0, 3, 1, 0, 5)
SECOND = take(0, 1, 2, 1, 7)
THIRD = take(0, 2, 1, 0, 0)
KEPT_TWICE = [begin(1), FIRST, keep(0), SECOND, keep(0)]
KEPT_THRICE = KEPT_TWICE + [THIRD, keep(0)]
TWO_ITEMS = [1, 2, 1, 0, 3, 1, 0, 5]
THREE_ITEMS = [1, 2, 1, 0, 2, 1, 0, 0, 3, 1, 0, 5]


class Disk(LineCase):
    def test_neither_slot_is_right(self):
        for offices in (1, 4):
            for node in range(offices + 2):
                self.check((begin(offices), [0]), (disk(node), [0, 0, 0, 0, 0]))

    def test_a_memory_that_was_not_kept_is_in_no_slot(self):
        self.check_after([begin(1), FIRST], (disk(0), [0, 0, 0, 0, 0]))

    def test_the_first_slot_is_written_first(self):
        self.check_after([begin(1), FIRST, keep(0)], (disk(0), [0, 1, 1, 0, 0, 3, 1, 0, 5]))

    def test_both_are_right(self):
        self.check_after(KEPT_TWICE, (disk(0), [0, 1, 1, 2, 2] + TWO_ITEMS))

    def test_they_are_written_in_turn(self):
        self.check_after(
            KEPT_THRICE,
            (disk(0), [0, 3, 3, 2, 2] + THREE_ITEMS),
            (keep(0), [0, 4]),
            (disk(0), [0, 3, 3, 4, 3] + THREE_ITEMS),
            (keep(0), [0, 5]),
            (disk(0), [0, 5, 3, 4, 3] + THREE_ITEMS),
        )

    def test_an_empty_memory_is_kept_with_no_items(self):
        self.check((begin(1), [0]), (keep(0), [0, 1]), (disk(0), [0, 1, 0, 0, 0]), (keep(0), [0, 2]),
                   (disk(0), [0, 1, 0, 2, 0]))

    def test_the_slots_do_not_change_with_the_memory(self):
        self.check_after(
            KEPT_TWICE,
            (take(0, 1, 3, 0, 9), [0, 1]),
            (take(0, 4, 3, 0, 9), [0, 1]),
            (disk(0), [0, 1, 1, 2, 2] + TWO_ITEMS),
            (cut(0), [0]),
            (up(0), [0, 2, 2]),
            (take(0, 3, 3, 0, 9), [0, 1]),
            (disk(0), [0, 1, 1, 2, 2] + TWO_ITEMS),
        )

    def test_without_power_it_is_the_same(self):
        for end in (cut(0), torn(0, 0)):
            self.check_after([begin(1), FIRST, end], (disk(0), [0, 0, 0, 0, 0]))
            self.check_after([begin(1), FIRST, keep(0), end], (disk(0), [0, 1, 1, 0, 0, 3, 1, 0, 5]))
            self.check_after(KEPT_TWICE + [end], (disk(0), [0, 1, 1, 2, 2] + TWO_ITEMS))
            self.check_after(KEPT_THRICE + [end], (disk(0), [0, 3, 3, 2, 2] + THREE_ITEMS))

    def test_a_memory_that_is_read_is_not_written(self):
        self.check_after(KEPT_TWICE + [cut(0), up(0)], (disk(0), [0, 1, 1, 2, 2] + TWO_ITEMS))

    def test_of_a_centre(self):
        self.check(
            (begin(1), [0]),
            (FIRST, [0, 1]),
            (send(0, 2), [0, 1]),
            (deliver(1), [0, 1]),
            (disk(2), [0, 0, 0, 0, 0]),
            (keep(2), [0, 1, 2]),
            (disk(2), [0, 1, 1, 0, 0, 3, 1, 0, 5]),
            (disk(1), [0, 0, 0, 0, 0]),
            (disk(0), [0, 0, 0, 0, 0]),
            (cut(2), [0]),
            (disk(2), [0, 1, 1, 0, 0, 3, 1, 0, 5]),
        )

    def test_a_greater_item_that_was_kept_is_told(self):
        self.check_after(
            [begin(1), take(0, 1, 1, 0, 1), keep(0), take(0, 1, 1, 0, 2), keep(0), take(0, 1, 1, 1, 0), keep(0)],
            (disk(0), [0, 3, 1, 2, 1, 1, 1, 1, 0]),
        )


class TornSlots(LineCase):
    def test_writing_that_had_begun_spoils_the_slot_that_is_not_read(self):
        self.check_after(KEPT_TWICE, (torn(0, 1), [0]), (disk(0), [0, 0, 0, 2, 2] + TWO_ITEMS))
        self.check_after(KEPT_THRICE, (torn(0, 1), [0]), (disk(0), [0, 3, 3, 0, 0] + THREE_ITEMS))

    def test_writing_that_had_not_begun_spoils_nothing(self):
        self.check_after(KEPT_TWICE, (torn(0, 0), [0]), (disk(0), [0, 1, 1, 2, 2] + TWO_ITEMS))
        self.check_after(KEPT_THRICE, (torn(0, 0), [0]), (disk(0), [0, 3, 3, 2, 2] + THREE_ITEMS))

    def test_where_the_other_one_is_not_right_yet(self):
        for begun in (0, 1):
            self.check_after([begin(1), FIRST, torn(0, begun)], (disk(0), [0, 0, 0, 0, 0]))
            self.check_after(
                [begin(1), FIRST, keep(0), torn(0, begun)], (disk(0), [0, 1, 1, 0, 0, 3, 1, 0, 5]),
            )

    def test_the_next_writing_is_into_the_spoiled_one(self):
        self.check_after(
            KEPT_TWICE,
            (torn(0, 1), [0]),
            (up(0), [0, 2, 2]),
            (disk(0), [0, 0, 0, 2, 2] + TWO_ITEMS),
            (torn(0, 1), [0]),
            (disk(0), [0, 0, 0, 2, 2] + TWO_ITEMS),
            (up(0), [0, 2, 2]),
            (keep(0), [0, 3]),
            (disk(0), [0, 3, 2, 2, 2] + TWO_ITEMS),
            (torn(0, 1), [0]),
            (disk(0), [0, 3, 2, 0, 0] + TWO_ITEMS),
            (up(0), [0, 3, 2]),
            (keep(0), [0, 4]),
            (disk(0), [0, 3, 2, 4, 2] + TWO_ITEMS),
        )

    def test_of_a_centre(self):
        line = [begin(1), FIRST, send(0, 1), deliver(1), keep(1), keep(1)]
        self.check_after(line, (disk(1), [0, 1, 1, 2, 1, 3, 1, 0, 5]))
        self.check_after(line, (torn(1, 1), [0]), (disk(1), [0, 0, 0, 2, 1, 3, 1, 0, 5]))
        self.check_after(line, (torn(1, 0), [0]), (disk(1), [0, 1, 1, 2, 1, 3, 1, 0, 5]))

    def test_other_nodes_have_their_slots_still(self):
        line = [begin(2)]
        for node in (0, 1, 2, 3):
            line += [keep(node), keep(node)]
        for node in (0, 1, 2, 3):
            spoiled = answers_of(line + [torn(node, 1)] + [disk(other) for other in (0, 1, 2, 3)])[-4:]
            expected = [[0, 1, 0, 2, 0]] * 4
            expected[node] = [0, 0, 0, 2, 0]
            self.assertEqual(spoiled, expected)

    def test_the_memory_is_gone_whether_writing_had_begun_or_not(self):
        for begun in (0, 1):
            self.check_after(
                KEPT_TWICE + [THIRD, torn(0, begun)],
                (memory(0), [-3]),
                (receipts(0), [-3]),
                (up(0), [0, 2, 2]),
                (memory(0), [0] + TWO_ITEMS),
            )


class State(LineCase):
    def test_at_the_beginning(self):
        for offices in (1, 2, 3, 4):
            self.check((begin(offices), [0]), (state(), [0] + [1, 0, 0, 0] * (offices + 2)))

    def test_items_sequences_and_what_is_owed(self):
        self.check(
            (begin(2), [0]),
            (take(0, 1, 1, 0, 5), [0, 1]),
            (take(0, 2, 1, 0, 5), [0, 1]),
            (take(1, 1, 2, 0, 5), [0, 1]),
            (state(), [0, 1, 0, 2, 0, 1, 0, 1, 0, 1, 0, 0, 0, 1, 0, 0, 0]),
            (send(0, 3), [0, 1]),
            (send(1, 3), [0, 2]),
            (deliver(1), [0, 1]),
            (state(), [0, 1, 0, 2, 0, 1, 0, 1, 0, 1, 0, 0, 0, 1, 0, 2, 2]),
            (deliver(2), [0, 1]),
            (state(), [0, 1, 0, 2, 0, 1, 0, 1, 0, 1, 0, 0, 0, 1, 0, 2, 3]),
            (keep(1), [0, 1]),
            (keep(1), [0, 2]),
            (keep(3), [0, 1, 3, 4]),
            (state(), [0, 1, 0, 2, 0, 1, 2, 1, 0, 1, 0, 0, 0, 1, 1, 2, 0]),
        )

    def test_without_power_there_is_no_memory_and_nothing_is_owed(self):
        for end in (cut(1), torn(1, 0), torn(1, 1)):
            self.check(
                (begin(1), [0]),
                (FIRST, [0, 1]),
                (send(0, 1), [0, 1]),
                (deliver(1), [0, 1]),
                (keep(1), [0, 1, 2]),
                (SECOND, [0, 1]),
                (send(0, 1), [0, 3]),
                (deliver(3), [0, 1]),
                (state(), [0, 1, 0, 2, 0, 1, 1, 2, 2, 1, 0, 0, 0]),
                (end, [0]),
                (state(), [0, 1, 0, 2, 0, 0, 1, 0, 0, 1, 0, 0, 0]),
                (up(1), [0, 1, 1]),
                (state(), [0, 1, 0, 2, 0, 1, 1, 1, 0, 1, 0, 0, 0]),
            )

    def test_all_nodes_without_power(self):
        self.check(
            (begin(1), [0]),
            (keep(0), [0, 1]),
            (keep(2), [0, 1]),
            (keep(2), [0, 2]),
            (cut(0), [0]),
            (torn(1, 1), [0]),
            (torn(2, 1), [0]),
            (state(), [0, 0, 1, 0, 0, 0, 0, 0, 0, 0, 2, 0, 0]),
        )

    def test_the_sequence_is_that_of_the_slot_that_is_read(self):
        self.check_after(
            KEPT_THRICE,
            (state(), [0, 1, 3, 3, 0, 1, 0, 0, 0, 1, 0, 0, 0]),
            (torn(0, 1), [0]),
            (state(), [0, 0, 3, 0, 0, 1, 0, 0, 0, 1, 0, 0, 0]),
            (up(0), [0, 3, 3]),
            (keep(0), [0, 4]),
            (state(), [0, 1, 4, 3, 0, 1, 0, 0, 0, 1, 0, 0, 0]),
        )

    def test_messages_under_way_are_in_no_state(self):
        self.check_after(
            [begin(1), FIRST],
            (send(0, 1), [0, 1]),
            (ask(2), [0, 2]),
            (state(), [0, 1, 0, 1, 0, 1, 0, 0, 0, 1, 0, 0, 0]),
            (lose(1), [0]),
            (deliver(2), [0, 1]),
            (state(), [0, 1, 0, 1, 0, 1, 0, 0, 0, 1, 0, 0, 0]),
        )


if __name__ == "__main__":
    unittest.main()
