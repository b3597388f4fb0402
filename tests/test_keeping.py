"""Keeping, torn writings, cuts, and power that comes back, for offices and for centres."""

import unittest

from tests.lines import LineCase, ask, begin, cut, deliver, double, keep, lose, memory, send, take, torn, up


class Slots(LineCase):
    def test_the_sequence_grows_by_1_with_each_keep(self):
        self.check((begin(1), [0]), *[(keep(0), [0, k]) for k in range(1, 8)])

    def test_each_node_has_slots_of_its_own(self):
        self.check(
            (begin(1), [0]),
            (keep(0), [0, 1]),
            (keep(0), [0, 2]),
            (keep(1), [0, 1]),
            (keep(2), [0, 1]),
            (keep(0), [0, 3]),
            (cut(1), [0]),
            (up(1), [0, 1, 0]),
        )

    def test_power_brings_back_what_was_kept_last(self):
        self.check(
            (begin(1), [0]),
            (take(0, 1, 1, 0, 5), [0, 1]),
            (keep(0), [0, 1]),
            (take(0, 2, 1, 0, 6), [0, 1]),
            (keep(0), [0, 2]),
            (take(0, 1, 2, 0, 7), [0, 1]),
            (keep(0), [0, 3]),
            (take(0, 3, 1, 0, 8), [0, 1]),
            (cut(0), [0]),
            (up(0), [0, 3, 2]),
            (memory(0), [0, 1, 2, 0, 7, 2, 1, 0, 6]),
            (keep(0), [0, 4]),
        )

    def test_where_nothing_was_kept_power_brings_nothing(self):
        self.check(
            (begin(1), [0]),
            (take(0, 1, 1, 0, 5), [0, 1]),
            (cut(0), [0]),
            (up(0), [0, 0, 0]),
            (memory(0), [0]),
            (keep(0), [0, 1]),
        )

    def test_an_empty_memory_is_kept_too(self):
        self.check((begin(1), [0]), (keep(0), [0, 1]), (cut(0), [0]), (up(0), [0, 1, 0]), (memory(0), [0]))

    def test_what_was_kept_does_not_change_with_the_memory(self):
        self.check(
            (begin(1), [0]),
            (take(0, 1, 1, 0, 5), [0, 1]),
            (keep(0), [0, 1]),
            (take(0, 1, 2, 0, 5), [0, 1]),
            (take(0, 2, 2, 0, 5), [0, 1]),
            (cut(0), [0]),
            (up(0), [0, 1, 1]),
            (take(0, 1, 3, 0, 5), [0, 1]),
            (take(0, 3, 2, 0, 5), [0, 1]),
            (cut(0), [0]),
            (up(0), [0, 1, 1]),
            (memory(0), [0, 1, 1, 0, 5]),
        )

    def test_up_tells_the_sequence_and_how_many_items(self):
        line = [begin(1)] + [take(0, form, 1, 0, 0) for form in range(1, 8)] + [keep(0)] * 9
        self.check_after(line, (cut(0), [0]), (up(0), [0, 9, 7]), (cut(0), [0]), (up(0), [0, 9, 7]))

    def test_a_centre_reads_what_came_and_was_kept(self):
        self.check(
            (begin(1), [0]),
            (take(0, 1, 1, 0, 5), [0, 1]),
            (send(0, 2), [0, 1]),
            (deliver(1), [0, 1]),
            (keep(2), [0, 1, 2]),
            (take(0, 2, 1, 0, 5), [0, 1]),
            (send(0, 2), [0, 3]),
            (deliver(3), [0, 1]),
            (memory(2), [0, 1, 1, 0, 5, 2, 1, 0, 5]),
            (cut(2), [0]),
            (up(2), [0, 1, 1]),
            (memory(2), [0, 1, 1, 0, 5]),
        )


class Torn(LineCase):
    def line_kept(self, times):
        """Give back a line in which office 0 keeps item k of form k as its k-th sequence."""
        line = [begin(1)]
        for k in range(1, times + 1):
            line += [take(0, k, k, 0, k), keep(0)]
        return line

    def test_at_the_first_writing(self):
        for begun in (0, 1):
            self.check(
                (begin(1), [0]),
                (take(0, 1, 1, 0, 5), [0, 1]),
                (torn(0, begun), [0]),
                (memory(0), [-3]),
                (up(0), [0, 0, 0]),
                (memory(0), [0]),
                (keep(0), [0, 1]),
            )

    def test_what_was_kept_before_is_read(self):
        for begun in (0, 1):
            for times in (1, 2, 3, 4):
                self.check_after(
                    self.line_kept(times),
                    (take(0, 20, 9, 0, 9), [0, 1]),
                    (torn(0, begun), [0]),
                    (up(0), [0, times, times]),
                    (memory(0), [0] + [number for k in range(1, times + 1) for number in (k, k, 0, k)]),
                )

    def test_torn_again_and_again(self):
        for times in (1, 2, 3, 4):
            pairs = []
            for begun in (1, 1, 0, 1, 0, 0, 1):
                pairs += [(take(0, 20, 9, 0, 9), [0, 1]), (torn(0, begun), [0]), (up(0), [0, times, times])]
            self.check_after(self.line_kept(times), *pairs)

    def test_the_sequence_goes_on_from_what_is_read(self):
        for begun in (0, 1):
            for times in (1, 2, 3, 4):
                self.check_after(
                    self.line_kept(times),
                    (torn(0, begun), [0]),
                    (up(0), [0, times, times]),
                    (keep(0), [0, times + 1]),
                    (torn(0, begun), [0]),
                    (up(0), [0, times + 1, times]),
                    (keep(0), [0, times + 2]),
                    (keep(0), [0, times + 3]),
                    (cut(0), [0]),
                    (up(0), [0, times + 3, times]),
                )

    def test_a_cut_and_a_writing_not_begun_spoil_nothing(self):
        self.check_after(
            self.line_kept(2),
            (torn(0, 0), [0]),
            (up(0), [0, 2, 2]),
            (cut(0), [0]),
            (up(0), [0, 2, 2]),
            (torn(0, 1), [0]),
            (up(0), [0, 2, 2]),
        )

    def test_a_centre(self):
        for begun in (0, 1):
            self.check(
                (begin(1), [0]),
                (take(0, 1, 1, 0, 5), [0, 1]),
                (send(0, 1), [0, 1]),
                (deliver(1), [0, 1]),
                (keep(1), [0, 1, 2]),
                (take(0, 1, 2, 0, 6), [0, 1]),
                (send(0, 1), [0, 3]),
                (deliver(3), [0, 1]),
                (torn(1, begun), [0]),
                (memory(1), [-3]),
                (up(1), [0, 1, 1]),
                (memory(1), [0, 1, 1, 0, 5]),
                (keep(1), [0, 2]),
            )

    def test_other_nodes_are_as_they_were(self):
        self.check(
            (begin(2), [0]),
            (take(0, 1, 1, 0, 5), [0, 1]),
            (take(1, 1, 1, 0, 5), [0, 1]),
            (keep(1), [0, 1]),
            (torn(0, 1), [0]),
            (cut(2), [0]),
            (memory(1), [0, 1, 1, 0, 5]),
            (memory(3), [0]),
            (cut(1), [0]),
            (up(1), [0, 1, 1]),
        )


class ReceiptsInTheSlots(LineCase):
    """An office's receipts are kept with its book, and lost with its power."""

    def line_acknowledged(self):
        """Give back a line in which centre 1 has kept what office 0 took in, and its receipt is message 2."""
        return [begin(1), take(0, 1, 1, 0, 5), keep(0), send(0, 1), deliver(1), keep(1)]

    def test_a_receipt_that_was_kept_comes_back(self):
        self.check_after(
            self.line_acknowledged(),
            (deliver(2), [0, 1]),
            (keep(0), [0, 2]),
            (cut(0), [0]),
            (up(0), [0, 2, 1]),
            (send(0, 1), [-4]),
            (send(0, 2), [0, 3]),
        )

    def test_a_receipt_that_was_not_kept_is_gone(self):
        for end in (cut(0), torn(0, 0), torn(0, 1)):
            self.check_after(
                self.line_acknowledged(),
                (deliver(2), [0, 1]),
                (send(0, 1), [-4]),
                (end, [0]),
                (up(0), [0, 1, 1]),
                (send(0, 1), [0, 3]),
            )

    def test_what_was_kept_does_not_change_with_the_receipts(self):
        self.check_after(
            self.line_acknowledged(),
            (double(2), [0, 3]),
            (double(2), [0, 4]),
            (deliver(2), [0, 1]),
            (cut(0), [0]),
            (up(0), [0, 1, 1]),
            (deliver(3), [0, 1]),
            (send(0, 1), [-4]),
            (cut(0), [0]),
            (up(0), [0, 1, 1]),
            (send(0, 1), [0, 5]),
            (deliver(4), [0, 1]),
            (send(0, 1), [-4]),
        )

    def test_a_receipt_dropped_in_the_memory_is_still_in_the_slot(self):
        self.check_after(
            self.line_acknowledged(),
            (deliver(2), [0, 1]),
            (keep(0), [0, 2]),
            (take(0, 1, 2, 0, 5), [0, 1]),
            (send(0, 1), [0, 3]),
            (cut(0), [0]),
            (up(0), [0, 2, 1]),
            (memory(0), [0, 1, 1, 0, 5]),
            (send(0, 1), [-4]),
        )

    def test_a_receipt_that_comes_late_is_for_what_stands_then(self):
        self.check_after(
            self.line_acknowledged(),
            (take(0, 1, 2, 0, 5), [0, 1]),
            (cut(0), [0]),
            (up(0), [0, 1, 1]),
            (deliver(2), [0, 1]),
            (send(0, 1), [-4]),
        )

    def test_a_receipt_that_comes_where_no_power_is_changes_nothing(self):
        self.check_after(
            self.line_acknowledged(),
            (cut(0), [0]),
            (deliver(2), [0, 0]),
            (up(0), [0, 1, 1]),
            (send(0, 1), [0, 3]),
        )


class WhatACentreOwes(LineCase):
    def test_an_office_that_keeps_sends_nothing(self):
        self.check(
            (begin(1), [0]),
            (take(0, 1, 1, 0, 5), [0, 1]),
            (send(0, 1), [0, 1]),
            (deliver(1), [0, 1]),
            (keep(0), [0, 1]),
            (keep(2), [0, 1]),
            (keep(1), [0, 1, 2]),
        )

    def test_what_was_sent_is_owed_no_more(self):
        self.check(
            (begin(1), [0]),
            (take(0, 1, 1, 0, 5), [0, 1]),
            (send(0, 1), [0, 1]),
            (double(1), [0, 2]),
            (deliver(1), [0, 1]),
            (keep(1), [0, 1, 3]),
            (keep(1), [0, 2]),
            (deliver(2), [0, 1]),
            (keep(1), [0, 3, 4]),
            (keep(1), [0, 4]),
        )

    def test_offices_are_served_by_their_numbers(self):
        line = [begin(4)]
        for number, office in enumerate((2, 0, 3, 1)):
            line += [take(office, office + 1, 1, 0, 5), send(office, 5), deliver(number + 1)]
        self.check_after(
            line,
            (keep(5), [0, 1, 5, 6, 7, 8]),
            (deliver(5), [0, 1]),
            (send(0, 5), [-4]),
            (send(1, 5), [0, 9]),
            (deliver(6), [0, 1]),
            (send(1, 5), [-4]),
            (send(2, 5), [0, 10]),
            (deliver(7), [0, 1]),
            (send(2, 5), [-4]),
            (send(3, 5), [0, 11]),
            (deliver(8), [0, 1]),
            (send(3, 5), [-4]),
        )

    def test_only_offices_to_which_it_owes_get_a_message(self):
        self.check(
            (begin(4), [0]),
            (take(3, 1, 1, 0, 5), [0, 1]),
            (take(1, 2, 1, 0, 5), [0, 1]),
            (send(3, 4), [0, 1]),
            (send(1, 4), [0, 2]),
            (deliver(1), [0, 1]),
            (deliver(2), [0, 1]),
            (keep(4), [0, 1, 3, 4]),
            (deliver(3), [0, 1]),
            (send(1, 4), [-4]),
            (send(3, 4), [0, 5]),
            (deliver(4), [0, 1]),
            (send(3, 4), [-4]),
        )

    def test_one_message_brings_all_that_is_owed_to_an_office(self):
        self.check(
            (begin(2), [0]),
            (take(0, 5, 1, 0, 5), [0, 1]),
            (send(0, 2), [0, 1]),
            (take(0, 3, 1, 0, 5), [0, 1]),
            (send(0, 2), [0, 2]),
            (take(1, 3, 2, 0, 5), [0, 1]),
            (send(1, 2), [0, 3]),
            (deliver(1), [0, 1]),
            (deliver(3), [0, 1]),
            (deliver(2), [0, 1]),
            (keep(2), [0, 1, 4, 5]),
            (deliver(4), [0, 1]),
            (send(0, 2), [-4]),
            (deliver(5), [0, 1]),
            (send(1, 2), [-4]),
        )

    def test_a_receipt_is_for_its_own_office_and_from_its_own_centre(self):
        self.check(
            (begin(2), [0]),
            (take(0, 1, 1, 0, 5), [0, 1]),
            (take(1, 1, 1, 0, 5), [0, 1]),
            (send(0, 2), [0, 1]),
            (deliver(1), [0, 1]),
            (keep(2), [0, 1, 2]),
            (deliver(2), [0, 1]),
            (send(0, 2), [-4]),
            (send(1, 2), [0, 3]),
            (send(0, 3), [0, 4]),
        )

    def test_the_same_item_is_owed_to_each_office_that_sent_it(self):
        self.check(
            (begin(2), [0]),
            (take(0, 1, 1, 0, 5), [0, 1]),
            (take(1, 1, 1, 0, 5), [0, 1]),
            (send(0, 2), [0, 1]),
            (send(1, 2), [0, 2]),
            (deliver(2), [0, 1]),
            (deliver(1), [0, 1]),
            (keep(2), [0, 1, 3, 4]),
        )

    def test_an_office_gets_receipts_for_its_own_items_alone(self):
        self.check(
            (begin(2), [0]),
            (take(0, 1, 1, 0, 5), [0, 1]),
            (send(0, 2), [0, 1]),
            (take(1, 2, 1, 0, 5), [0, 1]),
            (send(1, 2), [0, 2]),
            (take(0, 2, 1, 0, 5), [0, 1]),
            (take(1, 1, 1, 0, 5), [0, 1]),
            (deliver(1), [0, 1]),
            (deliver(2), [0, 1]),
            (keep(2), [0, 1, 3, 4]),
            (deliver(3), [0, 1]),
            (deliver(4), [0, 1]),
            (send(0, 2), [0, 5]),
            (send(1, 2), [0, 6]),
        )

    def test_what_both_centres_owe_goes_to_all_by_themselves(self):
        self.check(
            (begin(3), [0]),
            (take(0, 1, 1, 0, 5), [0, 1]),
            (take(2, 2, 1, 0, 5), [0, 1]),
            (send(0, 3), [0, 1]),
            (send(0, 4), [0, 2]),
            (send(2, 3), [0, 3]),
            (send(2, 4), [0, 4]),
            (deliver(4), [0, 1]),
            (deliver(3), [0, 1]),
            (deliver(2), [0, 1]),
            (deliver(1), [0, 1]),
            (keep(3), [0, 1, 5, 6]),
            (keep(4), [0, 1, 7, 8]),
            (deliver(5), [0, 1]),
            (send(0, 3), [-4]),
            (send(0, 4), [0, 9]),
            (deliver(7), [0, 1]),
            (send(0, 4), [-4]),
        )

    def test_with_the_power_what_is_owed_is_gone(self):
        for end in (cut(1), torn(1, 0), torn(1, 1)):
            self.check(
                (begin(1), [0]),
                (take(0, 1, 1, 0, 5), [0, 1]),
                (send(0, 1), [0, 1]),
                (deliver(1), [0, 1]),
                (end, [0]),
                (up(1), [0, 0, 0]),
                (keep(1), [0, 1]),
                (send(0, 1), [0, 2]),
            )

    def test_what_came_while_receipts_were_under_way_is_owed_anew(self):
        self.check(
            (begin(1), [0]),
            (take(0, 1, 1, 0, 5), [0, 1]),
            (send(0, 1), [0, 1]),
            (deliver(1), [0, 1]),
            (keep(1), [0, 1, 2]),
            (lose(2), [0]),
            (send(0, 1), [0, 3]),
            (deliver(3), [0, 1]),
            (keep(1), [0, 2, 4]),
            (deliver(4), [0, 1]),
            (send(0, 1), [-4]),
        )

    def test_nothing_is_owed_for_summaries_and_fillings(self):
        self.check(
            (begin(1), [0]),
            (take(0, 1, 1, 0, 5), [0, 1]),
            (send(0, 1), [0, 1]),
            (deliver(1), [0, 1]),
            (keep(1), [0, 1, 2]),
            (ask(1), [0, 3]),
            (deliver(3), [0, 1]),
            (keep(2), [0, 1]),
            (ask(2), [0, 4]),
            (deliver(4), [0, 1, 5]),
            (deliver(5), [0, 1]),
            (keep(2), [0, 2]),
            (keep(1), [0, 2]),
        )


if __name__ == "__main__":
    unittest.main()
