"""Settling: what is sent, what comes, what is lost, and what all nodes have in memory and slots then."""

import unittest

from tests.lines import (
    LineCase, acknowledged, answers_of, ask, begin, both, cut, deliver, disk, double, even, flight, full_line, items_in,
    keep, lacks, lose, memory, message, owed, receipts, send, settle, state, take, taken, torn, up,
)

# Office 0 has lost what centre 2 has of it and owes a receipt for; office 1 has no power and, in its slot, an item
# without the receipt that it had from centre 3; centre 2's summary is under way as message 4.
UNEVEN = [
    begin(2), take(0, 1, 5, 0, 5), send(0, 2), deliver(1), cut(0),
    take(1, 2, 5, 0, 6), keep(1), send(1, 3), deliver(2), keep(3), deliver(3), cut(1),
    ask(2),
]
BOTH_ITEMS = [1, 5, 0, 5, 2, 5, 0, 6]


class NothingToSend(LineCase):
    def test_two_summaries_are_sent_and_all_nodes_keep(self):
        for offices in (1, 2, 3, 4):
            told = [1, 1, 0, 0] * offices + [1, 2, 0, 0] * 2
            self.check(
                (begin(offices), [0]),
                (settle(), [0, 2]),
                (state(), [0] + told),
                (flight(), [0]),
                (even(), [0, 1]),
                (ask(offices), [0, 3]),
            )

    def test_twice_in_a_row(self):
        self.check(
            (begin(1), [0]),
            (settle(), [0, 2]),
            (settle(), [0, 2]),
            (state(), [0, 1, 2, 0, 0, 1, 4, 0, 0, 1, 4, 0, 0]),
            (disk(0), [0, 1, 0, 2, 0]),
            (disk(1), [0, 3, 0, 4, 0]),
            (ask(2), [0, 5]),
        )

    def test_twelve_times(self):
        pairs = [(settle(), [0, 2])] * 12
        self.check((begin(4), [0]), *pairs, (state(), [0] + [1, 12, 0, 0] * 4 + [1, 24, 0, 0] * 2), (ask(5), [0, 25]))

    def test_offices_that_have_all_receipts_send_nothing(self):
        self.check(
            (begin(1), [0]),
            (take(0, 1, 5, 0, 5), [0, 1]),
            (send(0, 1), [0, 1]),
            (send(0, 2), [0, 2]),
            (deliver(1), [0, 1]),
            (deliver(2), [0, 1]),
            (keep(1), [0, 1, 3]),
            (keep(2), [0, 1, 4]),
            (deliver(3), [0, 1]),
            (deliver(4), [0, 1]),
            (settle(), [0, 2]),
            (receipts(0), [0, 1, 1, 1, 2]),
            (ask(1), [0, 7]),
        )


class WhatIsSent(LineCase):
    def test_forms_receipts_and_summaries_of_one_office(self):
        self.check(
            (begin(1), [0]),
            (take(0, 7, 5, 0, 5), [0, 1]),
            (take(0, 3, 5, 1, 5), [0, 1]),
            (settle(), [0, 6]),
            (memory(1), [0, 3, 5, 1, 0, 7, 5, 0, 5]),
            (memory(2), [0, 3, 5, 1, 0, 7, 5, 0, 5]),
            (receipts(0), [0, 3, 1, 3, 2, 7, 1, 7, 2]),
            (acknowledged(), [0, 1, 3, 5, 1, 0, 1, 7, 5, 0, 5, 2, 3, 5, 1, 0, 2, 7, 5, 0, 5]),
            (owed(1), [0]),
            (owed(2), [0]),
            (flight(), [0]),
            (ask(2), [0, 7]),
            (settle(), [0, 2]),
            (ask(2), [0, 10]),
        )

    def test_four_offices(self):
        line = [begin(4)] + [take(office, 5 - office, 1, 0, office) for office in (0, 1, 2, 3)]
        items = [[5, 1, 0, 0], [4, 1, 0, 1], [3, 1, 0, 2], [2, 1, 0, 3]]
        told = [number for centre in (4, 5) for item in items for number in [centre] + item]
        # Eight messages with forms, eight receipts, two summaries.
        self.check_after(
            line,
            (settle(), [0, 18]),
            (acknowledged(), [0] + told),
            (memory(4), [0, 2, 1, 0, 3, 3, 1, 0, 2, 4, 1, 0, 1, 5, 1, 0, 0]),
            (memory(5), [0, 2, 1, 0, 3, 3, 1, 0, 2, 4, 1, 0, 1, 5, 1, 0, 0]),
            (memory(0), [0, 5, 1, 0, 0]),
            (memory(3), [0, 2, 1, 0, 3]),
            (receipts(2), [0, 3, 4, 3, 5]),
            (ask(4), [0, 19]),
        )

    def test_only_what_has_no_receipt_from_the_centre(self):
        self.check(
            (begin(1), [0]),
            (take(0, 1, 5, 0, 5), [0, 1]),
            (send(0, 2), [0, 1]),
            (deliver(1), [0, 1]),
            (keep(2), [0, 1, 2]),
            (deliver(2), [0, 1]),
            (settle(), [0, 4]),
            (receipts(0), [0, 1, 1, 1, 2]),
            (acknowledged(), [0, 2, 1, 5, 0, 5, 1, 1, 5, 0, 5]),
            (ask(1), [0, 7]),
        )

    def test_what_was_owed_already_is_acknowledged_too(self):
        line = [begin(2), take(0, 1, 5, 0, 5), send(0, 2), take(0, 1, 6, 0, 6), deliver(1)]
        self.check_after(
            line,
            (owed(2), [0, 0, 1, 5, 0, 5]),
            (settle(), [0, 6]),
            (acknowledged(), [0, 2, 1, 5, 0, 5, 2, 1, 6, 0, 6, 3, 1, 6, 0, 6]),
            (receipts(0), [0, 1, 2, 1, 3]),
        )

    def test_a_receipt_is_sent_for_what_is_owed_though_nothing_comes(self):
        self.check(
            (begin(1), [0]),
            (take(0, 1, 5, 0, 5), [0, 1]),
            (send(0, 2), [0, 1]),
            (deliver(1), [0, 1]),
            (cut(0), [0]),
            # A receipt from centre 2, the first centre's summary with a filling, the second one's.
            (settle(), [0, 4]),
            (acknowledged(), [0, 2, 1, 5, 0, 5]),
            (receipts(0), [0]),
            (memory(1), [0, 1, 5, 0, 5]),
            (ask(1), [0, 6]),
        )

    def test_the_first_centre_is_filled_and_the_second_asks_with_nothing_to_fill(self):
        self.check_after(
            [begin(1), take(0, 1, 5, 0, 5), send(0, 2), deliver(1), keep(2), lose(2), cut(0)],
            (settle(), [0, 3]),
            (memory(1), [0, 1, 5, 0, 5]),
            (disk(1), [0, 1, 0, 2, 1, 1, 5, 0, 5]),
            (disk(2), [0, 3, 1, 2, 1, 1, 5, 0, 5]),
            (ask(1), [0, 6]),
        )

    def test_the_second_centre_is_filled(self):
        self.check_after(
            [begin(1), take(0, 1, 5, 0, 5), send(0, 1), deliver(1), keep(1), lose(2), cut(0)],
            (settle(), [0, 3]),
            (memory(2), [0, 1, 5, 0, 5]),
            (disk(1), [0, 3, 1, 2, 1, 1, 5, 0, 5]),
            (disk(2), [0, 1, 0, 2, 1, 1, 5, 0, 5]),
        )

    def test_both_centres_are_filled(self):
        line = [begin(2), take(0, 1, 5, 0, 5), take(1, 1, 4, 1, 5), take(1, 2, 4, 1, 5), send(0, 2), send(1, 3)]
        self.check_after(
            line + [deliver(1), deliver(2), keep(2), keep(3), lose(3), lose(4), cut(0), cut(1)],
            (settle(), [0, 4]),
            (memory(2), [0, 1, 5, 0, 5, 2, 4, 1, 0]),
            (memory(3), [0, 1, 5, 0, 5, 2, 4, 1, 0]),
            (memory(0), [0]),
            (memory(1), [0]),
            (ask(2), [0, 9]),
        )


class MessagesUnderWay(LineCase):
    def test_they_are_lost(self):
        self.check(
            (begin(1), [0]),
            (take(0, 1, 5, 0, 5), [0, 1]),
            (send(0, 1), [0, 1]),
            (send(0, 2), [0, 2]),
            (cut(0), [0]),
            (settle(), [0, 2]),
            (flight(), [0]),
            (deliver(1), [-4]),
            (lose(2), [-4]),
            (message(2), [-4]),
            (memory(1), [0]),
            (memory(2), [0]),
            (taken(), [0, 1, 5, 0, 5]),
            (ask(1), [0, 5]),
        )

    def test_a_receipt_under_way_is_lost(self):
        self.check(
            (begin(1), [0]),
            (take(0, 1, 5, 0, 5), [0, 1]),
            (send(0, 1), [0, 1]),
            (deliver(1), [0, 1]),
            (keep(1), [0, 1, 2]),
            (cut(0), [0]),
            (settle(), [0, 3]),
            (acknowledged(), [0]),
            (memory(1), [0, 1, 5, 0, 5]),
        )

    def test_a_filling_and_a_summary_under_way_are_lost(self):
        self.check(
            (begin(1), [0]),
            (take(0, 1, 5, 0, 5), [0, 1]),
            (send(0, 2), [0, 1]),
            (deliver(1), [0, 1]),
            (ask(1), [0, 2]),
            (double(2), [0, 3]),
            (deliver(2), [0, 1, 4]),
            (cut(2), [0]),
            (cut(0), [0]),
            (settle(), [0, 2]),
            (memory(1), [0]),
            (memory(2), [0]),
            (flight(), [0]),
        )

    def test_forty_of_them(self):
        for offices in (1, 4):
            line = full_line(offices, 40)
            for office in range(offices):
                line.append(take(office, office + 1, 1, 0, 0))
            told = [number for office in range(offices) for number in (office + 1, 1, 0, 0)]
            self.check_after(
                line,
                (ask(offices), [-5]),
                (settle(), [0, 4 * offices + 2]),
                (flight(), [0]),
                (memory(offices), [0] + told),
                (ask(offices), [0, 43 + 4 * offices]),
            )

    def test_room_for_forty_more(self):
        pairs = [(ask(1), [0, number]) for number in range(43, 83)]
        self.check_after(full_line(1, 40), (settle(), [0, 2]), *pairs, (ask(1), [-5]))


class Power(LineCase):
    def test_all_nodes_get_it(self):
        self.check(
            (begin(2), [0]),
            (cut(0), [0]),
            (torn(1, 1), [0]),
            (cut(2), [0]),
            (torn(3, 0), [0]),
            (settle(), [0, 2]),
            (state(), [0, 1, 1, 0, 0, 1, 1, 0, 0, 1, 2, 0, 0, 1, 2, 0, 0]),
        )

    def test_the_memory_is_what_the_slot_that_is_read_has(self):
        for end in (cut(0), torn(0, 0), torn(0, 1)):
            self.check(
                (begin(1), [0]),
                (take(0, 1, 5, 0, 5), [0, 1]),
                (keep(0), [0, 1]),
                (take(0, 1, 6, 0, 5), [0, 1]),
                (keep(0), [0, 2]),
                (take(0, 1, 7, 0, 5), [0, 1]),
                (end, [0]),
                (settle(), [0, 6]),
                (memory(0), [0, 1, 6, 0, 5]),
                (memory(1), [0, 1, 6, 0, 5]),
                (memory(2), [0, 1, 6, 0, 5]),
                (disk(0), [0, 3, 1, 2, 1, 1, 6, 0, 5]),
            )

    def test_where_there_is_power_the_memory_stays(self):
        self.check(
            (begin(1), [0]),
            (take(0, 1, 5, 0, 5), [0, 1]),
            (keep(0), [0, 1]),
            (take(0, 1, 6, 0, 5), [0, 1]),
            (send(0, 1), [0, 1]),
            (deliver(1), [0, 1]),
            (settle(), [0, 6]),
            (memory(0), [0, 1, 6, 0, 5]),
            (memory(1), [0, 1, 6, 0, 5]),
        )

    def test_receipts_that_were_kept_come_back_and_those_that_were_not_are_gone(self):
        line = [begin(1), take(0, 1, 5, 0, 5), send(0, 1), deliver(1), keep(1), deliver(2)]
        # With the receipt: to centre 2 alone, and its receipt. Without: to both, and both receipts.
        self.check_after(line + [keep(0), cut(0)], (settle(), [0, 4]), (receipts(0), [0, 1, 1, 1, 2]))
        self.check_after(
            [begin(1), take(0, 1, 5, 0, 5), keep(0)] + line[2:] + [cut(0)],
            (settle(), [0, 6]),
            (receipts(0), [0, 1, 1, 1, 2]),
        )

    def test_what_a_centre_without_power_owed_is_gone(self):
        self.check(
            (begin(1), [0]),
            (take(0, 1, 5, 0, 5), [0, 1]),
            (send(0, 1), [0, 1]),
            (deliver(1), [0, 1]),
            (cut(1), [0]),
            (cut(0), [0]),
            (settle(), [0, 2]),
            (acknowledged(), [0]),
        )


class Uneven(LineCase):
    def test_before(self):
        self.check_after(
            UNEVEN,
            (state(), [0, 0, 0, 0, 0, 0, 1, 0, 0, 1, 0, 1, 1, 1, 1, 1, 0]),
            (flight(), [0, 4, 3, 2, 3, 1]),
            (acknowledged(), [0, 3, 2, 5, 0, 6]),
            (even(), [0, 0]),
        )

    def test_what_is_sent_and_where_all_is_then(self):
        # 5 and 6: office 1's item to both centres. 7, 8: centre 2's receipts, 9: centre 3's. 10: centre 2's summary,
        # which brings nothing. 11: centre 3's, 12: what fills it.
        self.check_after(
            UNEVEN,
            (settle(), [0, 8]),
            (flight(), [0]),
            (state(), [0, 1, 1, 0, 0, 1, 2, 1, 0, 1, 2, 2, 0, 1, 3, 2, 0]),
            (memory(2), [0] + BOTH_ITEMS),
            (memory(3), [0] + BOTH_ITEMS),
            (acknowledged(), [0, 3, 2, 5, 0, 6, 2, 1, 5, 0, 5, 2, 2, 5, 0, 6]),
            (even(), [0, 1]),
            (lacks(1, 2), [0]),
            (ask(2), [0, 13]),
        )

    def test_what_all_nodes_have_in_their_slots_then(self):
        self.check_after(
            UNEVEN,
            (settle(), [0, 8]),
            (disk(0), [0, 1, 0, 0, 0]),
            (disk(1), [0, 1, 1, 2, 1, 2, 5, 0, 6]),
            (disk(2), [0, 1, 2, 2, 2] + BOTH_ITEMS),
            (disk(3), [0, 3, 2, 2, 1] + BOTH_ITEMS),
        )

    def test_receipts_are_in_the_slots_then(self):
        self.check_after(
            UNEVEN,
            (settle(), [0, 8]),
            (receipts(0), [0]),
            (receipts(1), [0, 2, 2, 2, 3]),
            (cut(1), [0]),
            (up(1), [0, 2, 1]),
            (receipts(1), [0, 2, 2, 2, 3]),
            (send(1, 2), [-4]),
        )

    def test_settled_again(self):
        self.check_after(
            UNEVEN,
            (settle(), [0, 8]),
            (settle(), [0, 2]),
            (state(), [0, 1, 2, 0, 0, 1, 3, 1, 0, 1, 4, 2, 0, 1, 5, 2, 0]),
            (disk(0), [0, 1, 0, 2, 0]),
            (disk(1), [0, 3, 1, 2, 1, 2, 5, 0, 6]),
            (disk(2), [0, 3, 2, 4, 2] + BOTH_ITEMS),
            (disk(3), [0, 5, 2, 4, 2] + BOTH_ITEMS),
            (ask(3), [0, 15]),
        )

    def test_all_goes_on_then(self):
        self.check_after(
            UNEVEN,
            (settle(), [0, 8]),
            (take(0, 1, 6, 0, 0), [0, 1]),
            (even(), [0, 0]),
            (send(0, 3), [0, 13]),
            (deliver(13), [0, 1]),
            (owed(3), [0, 0, 1, 6, 0, 0]),
            (even(), [0, 0]),
            (settle(), [0, 6]),
            (acknowledged(), [0, 3, 2, 5, 0, 6, 2, 1, 5, 0, 5, 2, 2, 5, 0, 6, 2, 1, 6, 0, 0, 3, 1, 6, 0, 0]),
            (even(), [0, 1]),
        )


class WhatBothHaveThen(LineCase):
    """Promise 4, by hand: offices and centres with power and without, each with something that no other one has."""

    def line_with_books(self):
        return [
            begin(3),
            take(0, 1, 2, 0, 1), take(0, 9, 1, 0, 0), keep(0), take(0, 2, 9, 0, 2),
            take(1, 1, 2, 1, 0), take(1, 3, 1, 0, 3), keep(1),
            take(2, 4, 4, 0, 4), send(2, 3), deliver(1), keep(3), lose(2), take(2, 4, 5, 0, 4), send(2, 3), deliver(3),
            take(2, 5, 5, 0, 5), send(2, 4), deliver(4), keep(4), lose(5),
        ]

    def see(self, without):
        """See that both centres get of each form the greatest there was, where these nodes have no power."""
        line = self.line_with_books() + [cut(node) for node in without]
        held = []
        for node in range(5):
            told = answers_of(line + ([up(node)] if node in without else []) + [memory(node)])[-1]
            held = both(held, items_in(told))
        after = answers_of(line + [settle(), memory(3), memory(4), even()])[-3:]
        self.assertEqual(items_in(after[0]), held, without)
        self.assertEqual(items_in(after[1]), held, without)
        self.assertEqual(after[2], [0, 1], without)

    def test_with_power_and_without(self):
        for chosen in range(32):
            self.see([node for node in range(5) if chosen >> node & 1])

    def test_all_have_power(self):
        told = [1, 2, 1, 0, 2, 9, 0, 2, 3, 1, 0, 3, 4, 5, 0, 4, 5, 5, 0, 5, 9, 1, 0, 0]
        self.check_after(self.line_with_books() + [settle()], (memory(3), [0] + told), (memory(4), [0] + told))

    def test_none_has_power(self):
        told = [1, 2, 1, 0, 3, 1, 0, 3, 4, 5, 0, 4, 5, 5, 0, 5, 9, 1, 0, 0]
        line = self.line_with_books() + [cut(node) for node in range(5)] + [settle()]
        self.check_after(line, (memory(3), [0] + told), (memory(4), [0] + told))

    def test_the_last_numbers_of_offices_and_forms(self):
        for offices in (1, 4):
            line = [begin(offices)]
            for form in range(1, 21):
                line.append(take(form % offices, form, 1000, 0, 999))
            told = [number for form in range(1, 21) for number in (form, 1000, 0, 999)]
            self.check_after(
                line,
                (settle(), [0, 4 * offices + 2]),
                (memory(offices), [0] + told),
                (memory(offices + 1), [0] + told),
                (disk(offices + 1), [0, 1, 20, 2, 20] + told),
                (even(), [0, 1]),
            )


if __name__ == "__main__":
    unittest.main()
