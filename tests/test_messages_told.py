"""What flight and message tell of the messages under way."""

import unittest

from tests.lines import (
    LineCase, ask, begin, cut, deliver, double, flight, full_line, keep, lose, message, send, take, torn, up,
)

# All four kinds are under way: 3 (a receipt), 4 (a filling), 5 (forms) and 6 (a summary).
FOUR_KINDS = [
    begin(2), take(0, 7, 1, 0, 5), take(0, 2, 1, 1, 6), send(0, 3), ask(2), deliver(1), keep(3), deliver(2),
    take(1, 9, 3, 0, 8), send(1, 2), ask(3),
]


class Flight(LineCase):
    def test_nothing_is_under_way(self):
        self.check((begin(1), [0]), (flight(), [0]), (ask(1), [0, 1]), (lose(1), [0]), (flight(), [0]))

    def test_each_kind(self):
        self.check_after(
            FOUR_KINDS,
            (flight(), [0, 3, 2, 3, 0, 2, 4, 4, 3, 2, 2, 5, 1, 1, 2, 1, 6, 3, 3, 2, 2]),
        )

    def test_forms_and_summaries_of_each_sender(self):
        self.check(
            (begin(2), [0]),
            (take(0, 1, 1, 0, 5), [0, 1]),
            (take(1, 1, 1, 0, 5), [0, 1]),
            (take(1, 2, 1, 0, 5), [0, 1]),
            (send(1, 3), [0, 1]),
            (send(0, 2), [0, 2]),
            (send(0, 3), [0, 3]),
            (send(1, 2), [0, 4]),
            (ask(3), [0, 5]),
            (ask(2), [0, 6]),
            (flight(), [0, 1, 1, 1, 3, 2, 2, 1, 0, 2, 1, 3, 1, 0, 3, 1, 4, 1, 1, 2, 2, 5, 3, 3, 2, 0, 6, 3, 2, 3, 0]),
        )

    def test_what_came_and_what_was_lost_is_under_way_no_more(self):
        self.check(
            (begin(1), [0]),
            (ask(1), [0, 1]),
            (ask(2), [0, 2]),
            (ask(1), [0, 3]),
            (ask(2), [0, 4]),
            (ask(1), [0, 5]),
            (deliver(3), [0, 1]),
            (flight(), [0, 1, 3, 1, 2, 0, 2, 3, 2, 1, 0, 4, 3, 2, 1, 0, 5, 3, 1, 2, 0]),
            (lose(1), [0]),
            (flight(), [0, 2, 3, 2, 1, 0, 4, 3, 2, 1, 0, 5, 3, 1, 2, 0]),
            (cut(2), [0]),
            (deliver(5), [0, 0]),
            (flight(), [0, 2, 3, 2, 1, 0, 4, 3, 2, 1, 0]),
            (lose(4), [0]),
            (deliver(2), [0, 1]),
            (flight(), [0]),
        )

    def test_a_doubled_one_was_sent_when_it_was_doubled(self):
        self.check_after(
            FOUR_KINDS,
            (lose(6), [0]),
            (double(3), [0, 7]),
            (double(5), [0, 8]),
            (flight(), [0, 3, 2, 3, 0, 2, 4, 4, 3, 2, 2, 5, 1, 1, 2, 1, 7, 2, 3, 0, 2, 8, 1, 1, 2, 1]),
            (deliver(3), [0, 1]),
            (double(4), [0, 9]),
            (flight(), [0, 4, 4, 3, 2, 2, 5, 1, 1, 2, 1, 7, 2, 3, 0, 2, 8, 1, 1, 2, 1, 9, 4, 3, 2, 2]),
        )

    def test_what_is_sent_back_stands_last(self):
        self.check(
            (begin(1), [0]),
            (take(0, 1, 1, 0, 5), [0, 1]),
            (send(0, 2), [0, 1]),
            (deliver(1), [0, 1]),
            (ask(1), [0, 2]),
            (ask(1), [0, 3]),
            (deliver(2), [0, 1, 4]),
            (flight(), [0, 3, 3, 1, 2, 0, 4, 4, 2, 1, 1]),
        )

    def test_receipts_stand_by_the_offices_numbers(self):
        line = [begin(3)]
        for number, office in enumerate((2, 0, 1)):
            line += [take(office, office + 1, 1, 0, 5), send(office, 4), deliver(number + 1)]
        self.check_after(
            line + [keep(4)],
            (flight(), [0, 4, 2, 4, 0, 1, 5, 2, 4, 1, 1, 6, 2, 4, 2, 1]),
        )

    def test_power_does_not_touch_it(self):
        told = [0, 3, 2, 3, 0, 2, 4, 4, 3, 2, 2, 5, 1, 1, 2, 1, 6, 3, 3, 2, 2]
        pairs = []
        for node in (0, 1, 2, 3):
            pairs += [(cut(node), [0]), (flight(), told)]
        for node in (0, 1, 2):
            pairs += [(up(node), [0, 0, 0]), (flight(), told)]
        self.check_after(FOUR_KINDS, *pairs)

    def test_forty_messages(self):
        for offices in (1, 4):
            told = []
            for number in range(1, 41):
                told += [number, 3, offices, offices + 1, 0]
            self.check_after(full_line(offices, 40), (flight(), [0] + told))

    def test_a_refused_send_is_not_under_way(self):
        self.check_after(FOUR_KINDS + [lose(3), lose(4), lose(5)], (send(0, 0), [-1]), (double(3), [-4]),
                         (flight(), [0, 6, 3, 3, 2, 2]))

    def test_with_a_new_begin_nothing_is_under_way(self):
        self.check_after(FOUR_KINDS, (begin(2), [0]), (flight(), [0]), (ask(3), [0, 1]), (flight(), [0, 1, 3, 3, 2, 0]))


class MessageItems(LineCase):
    def test_each_kind(self):
        self.check_after(
            FOUR_KINDS,
            (message(3), [0, 2, 1, 1, 0, 7, 1, 0, 5]),
            (message(4), [0, 2, 1, 1, 0, 7, 1, 0, 5]),
            (message(5), [0, 9, 3, 0, 8]),
            (message(6), [0, 2, 1, 1, 0, 7, 1, 0, 5]),
        )

    def test_an_empty_summary(self):
        self.check((begin(1), [0]), (ask(1), [0, 1]), (message(1), [0]))

    def test_forms_summaries_and_fillings_stand_by_their_forms_numbers(self):
        forms = [10, 2, 20, 1, 9, 11, 3]
        told = []
        for form in sorted(forms):
            told += [form, 2, 0, form]
        self.check_after(
            [begin(1)] + [take(0, form, 2, 0, form) for form in forms],
            (send(0, 1), [0, 1]),
            (message(1), [0] + told),
            (deliver(1), [0, 1]),
            (ask(1), [0, 2]),
            (message(2), [0] + told),
            (ask(2), [0, 3]),
            (deliver(3), [0, 1, 4]),
            (message(4), [0] + told),
        )

    def test_books_that_grew_in_another_order_stand_by_their_forms_numbers(self):
        self.check(
            (begin(2), [0]),
            (take(0, 5, 1, 0, 5), [0, 1]),
            (take(1, 2, 1, 0, 2), [0, 1]),
            (send(0, 2), [0, 1]),
            (send(1, 2), [0, 2]),
            (deliver(1), [0, 1]),
            (deliver(2), [0, 1]),
            (ask(2), [0, 3]),
            (message(3), [0, 2, 1, 0, 2, 5, 1, 0, 5]),
            (ask(3), [0, 4]),
            (deliver(4), [0, 1, 5]),
            (message(5), [0, 2, 1, 0, 2, 5, 1, 0, 5]),
        )

    def test_forms_are_those_without_a_receipt_from_this_centre(self):
        self.check(
            (begin(1), [0]),
            (take(0, 4, 1, 0, 4), [0, 1]),
            (send(0, 1), [0, 1]),
            (deliver(1), [0, 1]),
            (keep(1), [0, 1, 2]),
            (deliver(2), [0, 1]),
            (take(0, 6, 1, 0, 6), [0, 1]),
            (take(0, 3, 1, 0, 3), [0, 1]),
            (send(0, 1), [0, 3]),
            (message(3), [0, 3, 1, 0, 3, 6, 1, 0, 6]),
            (send(0, 2), [0, 4]),
            (message(4), [0, 3, 1, 0, 3, 4, 1, 0, 4, 6, 1, 0, 6]),
            (take(0, 4, 2, 0, 4), [0, 1]),
            (send(0, 1), [0, 5]),
            (message(5), [0, 3, 1, 0, 3, 4, 2, 0, 4, 6, 1, 0, 6]),
        )

    def test_a_filling_is_the_news_alone(self):
        self.check(
            (begin(2), [0]),
            (take(0, 1, 1, 0, 5), [0, 1]),
            (take(0, 2, 1, 0, 5), [0, 1]),
            (take(0, 3, 1, 0, 5), [0, 1]),
            (take(0, 4, 1, 0, 5), [0, 1]),
            (take(1, 2, 1, 0, 5), [0, 1]),
            (take(1, 3, 2, 0, 5), [0, 1]),
            (take(1, 4, 1, 0, 4), [0, 1]),
            (send(0, 2), [0, 1]),
            (send(1, 3), [0, 2]),
            (deliver(1), [0, 1]),
            (deliver(2), [0, 1]),
            (ask(3), [0, 3]),
            (deliver(3), [0, 1, 4]),
            (message(4), [0, 1, 1, 0, 5, 4, 1, 0, 5]),
            (ask(2), [0, 5]),
            (deliver(5), [0, 1, 6]),
            (message(6), [0, 3, 2, 0, 5]),
        )

    def test_a_receipt_is_in_the_order_in_which_its_items_came_to_be_owed(self):
        line = [begin(1), take(0, 5, 1, 0, 5), send(0, 1), take(0, 3, 1, 0, 5), send(0, 1)]
        self.check_after(line + [deliver(1), deliver(2), keep(1)], (message(3), [0, 5, 1, 0, 5, 3, 1, 0, 5]))
        self.check_after(line + [deliver(2), deliver(1), keep(1)], (message(3), [0, 3, 1, 0, 5, 5, 1, 0, 5]))

    def test_a_receipt_is_for_items_too_that_do_not_stand(self):
        line = [begin(1), take(0, 5, 1, 0, 5), send(0, 1), take(0, 5, 2, 0, 5), send(0, 1), take(0, 5, 2, 1, 5),
                send(0, 1), deliver(2), deliver(3), deliver(1), keep(1)]
        self.check_after(line, (message(4), [0, 5, 2, 0, 5, 5, 2, 1, 0, 5, 1, 0, 5]))

    def test_receipts_are_for_what_the_office_itself_sent(self):
        self.check(
            (begin(2), [0]),
            (take(0, 5, 1, 0, 5), [0, 1]),
            (take(1, 4, 1, 0, 4), [0, 1]),
            (send(0, 2), [0, 1]),
            (send(1, 2), [0, 2]),
            (take(0, 4, 1, 0, 4), [0, 1]),
            (send(0, 2), [0, 3]),
            (deliver(2), [0, 1]),
            (deliver(1), [0, 1]),
            (deliver(3), [0, 1]),
            (keep(2), [0, 1, 4, 5]),
            (message(4), [0, 5, 1, 0, 5, 4, 1, 0, 4]),
            (message(5), [0, 4, 1, 0, 4]),
        )

    def test_a_doubled_one_has_the_same_items(self):
        self.check_after(
            FOUR_KINDS,
            (double(3), [0, 7]),
            (double(6), [0, 8]),
            (double(5), [0, 9]),
            (double(4), [0, 10]),
            (lose(3), [0]),
            (message(7), [0, 2, 1, 1, 0, 7, 1, 0, 5]),
            (message(8), [0, 2, 1, 1, 0, 7, 1, 0, 5]),
            (message(9), [0, 9, 3, 0, 8]),
            (message(10), [0, 2, 1, 1, 0, 7, 1, 0, 5]),
        )

    def test_the_items_stay_as_they_were_sent(self):
        told = [0, 2, 1, 1, 0, 7, 1, 0, 5]
        self.check_after(
            FOUR_KINDS,
            (take(0, 7, 2, 0, 5), [0, 1]),
            (take(1, 9, 4, 0, 5), [0, 1]),
            (deliver(4), [0, 1]),
            (torn(3, 1), [0]),
            (cut(0), [0]),
            (cut(1), [0]),
            (message(3), told),
            (message(5), [0, 9, 3, 0, 8]),
            (message(6), told),
        )

    def test_only_what_is_under_way_has_items(self):
        self.check_after(
            FOUR_KINDS,
            (message(1), [-4]),
            (message(2), [-4]),
            (message(7), [-4]),
            (deliver(5), [0, 1]),
            (message(5), [-4]),
            (lose(6), [0]),
            (message(6), [-4]),
            (cut(0), [0]),
            (deliver(3), [0, 0]),
            (message(3), [-4]),
            (begin(2), [0]),
            (message(4), [-4]),
        )


if __name__ == "__main__":
    unittest.main()
