"""The four kinds of message as they come, are lost, are doubled, come late, and find power or none."""

import unittest

from tests.lines import LineCase, ask, begin, cut, deliver, double, keep, lose, memory, send, take, torn, up


class Take(LineCase):
    def test_answers_1_where_the_very_item_stands(self):
        self.check(
            (begin(1), [0]),
            (take(0, 1, 5, 0, 5), [0, 1]),
            (take(0, 1, 5, 0, 5), [0, 1]),
            (take(0, 1, 5, 0, 4), [0, 0]),
            (take(0, 1, 4, 0, 6), [0, 0]),
            (take(0, 1, 4, 1, 6), [0, 0]),
            (take(0, 1, 5, 0, 6), [0, 1]),
            (take(0, 1, 5, 1, 6), [0, 1]),
            (take(0, 1, 5, 0, 7), [0, 0]),
            (take(0, 1, 6, 0, 0), [0, 1]),
            (memory(0), [0, 1, 6, 0, 0]),
        )


class Send(LineCase):
    def line_with_receipt(self):
        """Give back a line in which office 0 has centre 2's receipt for its item of form 1; message 3 is the next."""
        return [begin(2), take(0, 1, 5, 0, 5), send(0, 2), deliver(1), keep(2), deliver(2)]

    def test_brings_the_whole_book_where_there_is_no_receipt(self):
        self.check(
            (begin(1), [0]),
            (take(0, 7, 1, 0, 5), [0, 1]),
            (take(0, 2, 1, 1, 5), [0, 1]),
            (send(0, 1), [0, 1]),
            (send(0, 1), [0, 2]),
            (send(0, 2), [0, 3]),
            (deliver(3), [0, 1]),
            (memory(2), [0, 2, 1, 1, 0, 7, 1, 0, 5]),
            (memory(1), [0]),
            (deliver(2), [0, 1]),
            (memory(1), [0, 2, 1, 1, 0, 7, 1, 0, 5]),
        )

    def test_carries_only_what_has_no_receipt(self):
        # Message 4 acknowledges what message 3 carried: the item of form 2, and not once more that of form 1.
        self.check(
            (begin(1), [0]),
            (take(0, 1, 5, 0, 5), [0, 1]),
            (keep(0), [0, 1]),
            (send(0, 1), [0, 1]),
            (deliver(1), [0, 1]),
            (keep(1), [0, 1, 2]),
            (deliver(2), [0, 1]),
            (take(0, 2, 5, 0, 5), [0, 1]),
            (send(0, 1), [0, 3]),
            (deliver(3), [0, 1]),
            (memory(1), [0, 1, 5, 0, 5, 2, 5, 0, 5]),
            (keep(1), [0, 2, 4]),
            (cut(0), [0]),
            (up(0), [0, 1, 1]),
            (deliver(4), [0, 1]),
            (send(0, 1), [0, 5]),
        )

    def test_carries_all_that_has_no_receipt_from_this_centre(self):
        self.check_after(
            self.line_with_receipt(),
            (take(0, 2, 5, 0, 5), [0, 1]),
            (take(0, 3, 5, 0, 5), [0, 1]),
            (send(0, 3), [0, 3]),
            (deliver(3), [0, 1]),
            (memory(3), [0, 1, 5, 0, 5, 2, 5, 0, 5, 3, 5, 0, 5]),
            (send(0, 2), [0, 4]),
            (deliver(4), [0, 1]),
            (memory(2), [0, 1, 5, 0, 5, 2, 5, 0, 5, 3, 5, 0, 5]),
        )

    def test_a_receipt_for_one_form_is_none_for_another(self):
        self.check_after(
            self.line_with_receipt(),
            (send(0, 2), [-4]),
            (take(0, 2, 5, 0, 5), [0, 1]),
            (send(0, 2), [0, 3]),
        )

    def test_to_a_centre_without_power(self):
        self.check(
            (begin(1), [0]),
            (cut(1), [0]),
            (take(0, 1, 5, 0, 5), [0, 1]),
            (send(0, 1), [0, 1]),
            (up(1), [0, 0, 0]),
            (deliver(1), [0, 1]),
            (memory(1), [0, 1, 5, 0, 5]),
        )

    def test_a_greater_item_taken_in_has_no_receipt(self):
        for greater in ((6, 0, 0), (5, 1, 0), (5, 0, 6)):
            self.check_after(
                self.line_with_receipt(),
                (send(0, 2), [-4]),
                (take(0, 1, *greater), [0, 1]),
                (send(0, 2), [0, 3]),
            )

    def test_an_item_taken_in_that_does_not_stand_leaves_the_receipt(self):
        for other in ((4, 0, 9), (4, 1, 0), (5, 0, 4), (5, 0, 5)):
            self.check_after(
                self.line_with_receipt(),
                (take(0, 1, *other), [0, 1 if other == (5, 0, 5) else 0]),
                (take(0, 2, 1, 0, 0), [0, 1]),
                (send(0, 2), [0, 3]),
                (deliver(3), [0, 1]),
                (keep(2), [0, 2, 4]),
                (deliver(4), [0, 1]),
                (send(0, 2), [-4]),
            )

    def test_the_message_has_what_stood_when_it_was_sent(self):
        self.check(
            (begin(1), [0]),
            (take(0, 1, 5, 0, 5), [0, 1]),
            (send(0, 1), [0, 1]),
            (take(0, 1, 6, 0, 5), [0, 1]),
            (take(0, 2, 6, 0, 5), [0, 1]),
            (cut(0), [0]),
            (deliver(1), [0, 1]),
            (memory(1), [0, 1, 5, 0, 5]),
        )


class Forms(LineCase):
    def test_items_come_into_the_memory_of_the_centre_alone(self):
        self.check(
            (begin(2), [0]),
            (take(0, 1, 5, 0, 5), [0, 1]),
            (send(0, 3), [0, 1]),
            (memory(3), [0]),
            (deliver(1), [0, 1]),
            (memory(0), [0, 1, 5, 0, 5]),
            (memory(1), [0]),
            (memory(2), [0]),
            (memory(3), [0, 1, 5, 0, 5]),
        )

    def test_without_power_nothing_comes_and_nothing_is_owed(self):
        self.check(
            (begin(1), [0]),
            (take(0, 1, 5, 0, 5), [0, 1]),
            (send(0, 1), [0, 1]),
            (cut(1), [0]),
            (deliver(1), [0, 0]),
            (deliver(1), [-4]),
            (up(1), [0, 0, 0]),
            (memory(1), [0]),
            (keep(1), [0, 1]),
        )

    def come_with(self, there, coming, standing):
        """Check that of what's there and what comes this one stands, and that what came gets its receipt."""
        self.check(
            (begin(2), [0]),
            (take(0, 1, *there), [0, 1]),
            (send(0, 2), [0, 1]),
            (deliver(1), [0, 1]),
            (keep(2), [0, 1, 2]),
            (take(1, 1, *coming), [0, 1]),
            (send(1, 2), [0, 3]),
            (deliver(3), [0, 1]),
            (memory(2), [0, 1] + list(standing)),
            (keep(2), [0, 2, 4]),
            (deliver(4), [0, 1]),
            (send(1, 2), [-4]),
            (send(0, 2), [0, 5]),
            (cut(2), [0]),
            (up(2), [0, 2, 1]),
            (memory(2), [0, 1] + list(standing)),
        )

    def test_lesser_same_and_greater_ones_all_get_receipts(self):
        self.come_with((5, 0, 5), (4, 0, 9), (5, 0, 5))
        self.come_with((5, 0, 5), (5, 0, 4), (5, 0, 5))
        self.come_with((5, 1, 0), (5, 0, 9), (5, 1, 0))
        self.come_with((5, 0, 5), (5, 0, 5), (5, 0, 5))
        self.come_with((5, 0, 5), (5, 0, 6), (5, 0, 6))
        self.come_with((5, 0, 5), (5, 1, 0), (5, 1, 0))
        self.come_with((5, 1, 0), (6, 0, 0), (6, 0, 0))

    def test_lesser_and_greater_items_in_one_message(self):
        self.check(
            (begin(2), [0]),
            (take(0, 1, 5, 0, 5), [0, 1]),
            (take(0, 2, 5, 0, 5), [0, 1]),
            (take(0, 3, 5, 0, 5), [0, 1]),
            (send(0, 2), [0, 1]),
            (deliver(1), [0, 1]),
            (take(1, 1, 4, 0, 5), [0, 1]),
            (take(1, 2, 6, 0, 5), [0, 1]),
            (take(1, 3, 5, 0, 5), [0, 1]),
            (take(1, 4, 1, 1, 5), [0, 1]),
            (send(1, 2), [0, 2]),
            (deliver(2), [0, 1]),
            (memory(2), [0, 1, 5, 0, 5, 2, 6, 0, 5, 3, 5, 0, 5, 4, 1, 1, 0]),
            (keep(2), [0, 1, 3, 4]),
            (deliver(4), [0, 1]),
            (send(1, 2), [-4]),
            (deliver(3), [0, 1]),
            (send(0, 2), [-4]),
        )

    def test_doubled_it_changes_nothing_more(self):
        self.check(
            (begin(1), [0]),
            (take(0, 1, 5, 0, 5), [0, 1]),
            (send(0, 1), [0, 1]),
            (double(1), [0, 2]),
            (deliver(2), [0, 1]),
            (deliver(1), [0, 1]),
            (memory(1), [0, 1, 5, 0, 5]),
            (keep(1), [0, 1, 3]),
            (deliver(3), [0, 1]),
            (send(0, 1), [-4]),
        )

    def test_late_it_leaves_what_is_greater(self):
        self.check(
            (begin(1), [0]),
            (take(0, 1, 5, 0, 5), [0, 1]),
            (send(0, 1), [0, 1]),
            (take(0, 1, 6, 0, 5), [0, 1]),
            (send(0, 1), [0, 2]),
            (deliver(2), [0, 1]),
            (deliver(1), [0, 1]),
            (memory(1), [0, 1, 6, 0, 5]),
            (keep(1), [0, 1, 3]),
            (deliver(3), [0, 1]),
            (send(0, 1), [-4]),
        )


class Receipts(LineCase):
    def line_with_receipt_under_way(self):
        """Give back a line in which message 2 is centre 1's receipt for office 0's item of form 1."""
        return [begin(1), take(0, 1, 5, 0, 5), send(0, 1), deliver(1), keep(1)]

    def test_the_very_item_has_it_then(self):
        self.check_after(
            self.line_with_receipt_under_way(),
            (send(0, 1), [0, 3]),
            (deliver(2), [0, 1]),
            (send(0, 1), [-4]),
            (send(0, 2), [0, 4]),
            (memory(0), [0, 1, 5, 0, 5]),
            (memory(1), [0, 1, 5, 0, 5]),
        )

    def test_an_item_that_does_not_stand_any_more_gets_none(self):
        for greater in ((6, 0, 5), (5, 1, 0), (5, 0, 6)):
            self.check_after(
                self.line_with_receipt_under_way(),
                (take(0, 1, *greater), [0, 1]),
                (deliver(2), [0, 1]),
                (memory(0), [0, 1] + list(greater)),
                (send(0, 1), [0, 3]),
            )

    def test_an_item_that_is_gone_with_the_power_is_not_brought_back(self):
        self.check_after(
            self.line_with_receipt_under_way(),
            (cut(0), [0]),
            (up(0), [0, 0, 0]),
            (deliver(2), [0, 1]),
            (memory(0), [0]),
            (send(0, 1), [-4]),
            (take(0, 1, 5, 0, 5), [0, 1]),
            (send(0, 1), [0, 3]),
        )

    def test_a_lesser_item_that_stands_then_gets_none(self):
        self.check(
            (begin(1), [0]),
            (take(0, 1, 5, 0, 5), [0, 1]),
            (keep(0), [0, 1]),
            (take(0, 1, 6, 0, 5), [0, 1]),
            (send(0, 1), [0, 1]),
            (deliver(1), [0, 1]),
            (keep(1), [0, 1, 2]),
            (cut(0), [0]),
            (up(0), [0, 1, 1]),
            (deliver(2), [0, 1]),
            (memory(0), [0, 1, 5, 0, 5]),
            (send(0, 1), [0, 3]),
        )

    def test_without_power_it_is_as_if_lost(self):
        self.check(
            (begin(1), [0]),
            (take(0, 1, 5, 0, 5), [0, 1]),
            (keep(0), [0, 1]),
            (send(0, 1), [0, 1]),
            (deliver(1), [0, 1]),
            (keep(1), [0, 1, 2]),
            (cut(0), [0]),
            (deliver(2), [0, 0]),
            (up(0), [0, 1, 1]),
            (deliver(2), [-4]),
            (send(0, 1), [0, 3]),
        )

    def test_doubled_it_changes_nothing_more(self):
        self.check_after(
            self.line_with_receipt_under_way(),
            (double(2), [0, 3]),
            (deliver(3), [0, 1]),
            (deliver(2), [0, 1]),
            (send(0, 1), [-4]),
            (take(0, 1, 6, 0, 5), [0, 1]),
            (send(0, 1), [0, 4]),
        )

    def test_a_doubled_one_that_comes_later_is_for_its_own_item(self):
        self.check_after(
            self.line_with_receipt_under_way(),
            (double(2), [0, 3]),
            (deliver(2), [0, 1]),
            (take(0, 1, 6, 0, 5), [0, 1]),
            (deliver(3), [0, 1]),
            (send(0, 1), [0, 4]),
        )

    def test_some_of_its_items_stand_and_some_do_not(self):
        self.check(
            (begin(1), [0]),
            (take(0, 1, 5, 0, 5), [0, 1]),
            (take(0, 2, 5, 0, 5), [0, 1]),
            (take(0, 3, 5, 0, 5), [0, 1]),
            (send(0, 1), [0, 1]),
            (deliver(1), [0, 1]),
            (keep(1), [0, 1, 2]),
            (take(0, 2, 5, 0, 6), [0, 1]),
            (deliver(2), [0, 1]),
            (send(0, 1), [0, 3]),
            (deliver(3), [0, 1]),
            (memory(1), [0, 1, 5, 0, 5, 2, 5, 0, 6, 3, 5, 0, 5]),
            (keep(1), [0, 2, 4]),
            (deliver(4), [0, 1]),
            (send(0, 1), [-4]),
        )

    def test_receipts_from_both_centres_stand_beside_each_other(self):
        self.check_after(
            self.line_with_receipt_under_way(),
            (send(0, 2), [0, 3]),
            (deliver(3), [0, 1]),
            (keep(2), [0, 1, 4]),
            (deliver(4), [0, 1]),
            (send(0, 2), [-4]),
            (send(0, 1), [0, 5]),
            (deliver(2), [0, 1]),
            (send(0, 1), [-4]),
            (send(0, 2), [-4]),
        )


class Summaries(LineCase):
    def line_with_books(self):
        """Give back a line in which centres 2 and 3 have each something that the other hasn't; message 5 is next."""
        return [
            begin(2),
            take(0, 1, 5, 0, 5), take(0, 2, 5, 0, 5), take(0, 3, 5, 0, 5), take(0, 4, 5, 1, 0), send(0, 2), deliver(1),
            take(1, 2, 6, 0, 5), take(1, 3, 4, 0, 5), take(1, 4, 5, 0, 9), take(1, 5, 5, 0, 5), send(1, 3), deliver(2),
            ask(2), lose(3), ask(3), lose(4),
        ]

    first = [1, 5, 0, 5, 2, 5, 0, 5, 3, 5, 0, 5, 4, 5, 1, 0]
    second = [2, 6, 0, 5, 3, 4, 0, 5, 4, 5, 0, 9, 5, 5, 0, 5]
    together = [1, 5, 0, 5, 2, 6, 0, 5, 3, 5, 0, 5, 4, 5, 1, 0, 5, 5, 0, 5]

    def test_brings_a_filling_to_the_one_who_asks(self):
        self.check_after(
            self.line_with_books(),
            (memory(2), [0] + self.first),
            (memory(3), [0] + self.second),
            (ask(2), [0, 5]),
            (deliver(5), [0, 1, 6]),
            (memory(2), [0] + self.first),
            (deliver(6), [0, 1]),
            (memory(2), [0] + self.together),
            (memory(3), [0] + self.second),
            (ask(3), [0, 7]),
            (deliver(7), [0, 1, 8]),
            (deliver(8), [0, 1]),
            (memory(3), [0] + self.together),
        )

    def test_the_second_centre_asks_likewise(self):
        self.check_after(
            self.line_with_books(),
            (ask(3), [0, 5]),
            (deliver(5), [0, 1, 6]),
            (deliver(6), [0, 1]),
            (memory(3), [0] + self.together),
            (memory(2), [0] + self.first),
        )

    def test_a_filling_brings_the_news_alone(self):
        # The centre that asked has lost its memory till the filling comes, so it shows what that carries.
        self.check_after(
            self.line_with_books(),
            (ask(2), [0, 5]),
            (cut(2), [0]),
            (up(2), [0, 0, 0]),
            (deliver(5), [0, 1, 6]),
            (deliver(6), [0, 1]),
            (memory(2), [0, 2, 6, 0, 5, 5, 5, 0, 5]),
        )

    def test_without_news_nothing_is_sent_back(self):
        self.check(
            (begin(1), [0]),
            (ask(1), [0, 1]),
            (deliver(1), [0, 1]),
            (take(0, 1, 5, 0, 5), [0, 1]),
            (send(0, 1), [0, 2]),
            (double(2), [0, 3]),
            (deliver(2), [0, 1]),
            (ask(1), [0, 4]),
            (deliver(4), [0, 1]),
            (memory(2), [0]),
            (cut(1), [0]),
            (up(1), [0, 0, 0]),
            (deliver(3), [0, 1]),
            (send(0, 2), [0, 5]),
            (deliver(5), [0, 1]),
            (ask(1), [0, 6]),
            (deliver(6), [0, 1]),
            (ask(2), [0, 7]),
            (deliver(7), [0, 1]),
            (ask(1), [0, 8]),
        )

    def test_lesser_items_are_no_news(self):
        for lesser, greater in (((4, 0, 9), (5, 0, 5)), ((5, 0, 4), (5, 0, 5)), ((5, 0, 9), (5, 1, 0))):
            self.check(
                (begin(2), [0]),
                (take(0, 1, *greater), [0, 1]),
                (send(0, 2), [0, 1]),
                (deliver(1), [0, 1]),
                (take(1, 1, *lesser), [0, 1]),
                (send(1, 3), [0, 2]),
                (deliver(2), [0, 1]),
                (ask(2), [0, 3]),
                (deliver(3), [0, 1]),
                (ask(3), [0, 4]),
                (deliver(4), [0, 1, 5]),
            )

    def test_an_empty_summary_brings_the_whole_book(self):
        self.check_after(
            self.line_with_books(),
            (cut(3), [0]),
            (up(3), [0, 0, 0]),
            (ask(3), [0, 5]),
            (deliver(5), [0, 1, 6]),
            (deliver(6), [0, 1]),
            (memory(3), [0] + self.first),
        )

    def test_a_summary_puts_nothing_into_a_memory(self):
        self.check_after(
            self.line_with_books(),
            (ask(2), [0, 5]),
            (deliver(5), [0, 1, 6]),
            (memory(3), [0] + self.second),
        )

    def test_without_power_nothing_is_sent_back(self):
        self.check_after(
            self.line_with_books(),
            (ask(2), [0, 5]),
            (cut(3), [0]),
            (deliver(5), [0, 0]),
            (deliver(5), [-4]),
            (ask(2), [0, 6]),
        )

    def test_asks_of_a_centre_without_power(self):
        self.check_after(
            self.line_with_books(),
            (cut(3), [0]),
            (ask(2), [0, 5]),
            (up(3), [0, 0, 0]),
            (deliver(5), [0, 1]),
        )

    def test_the_one_who_asked_may_have_no_power_when_it_comes(self):
        self.check_after(
            self.line_with_books(),
            (ask(2), [0, 5]),
            (cut(2), [0]),
            (deliver(5), [0, 1, 6]),
            (deliver(6), [0, 0]),
            (deliver(6), [-4]),
            (up(2), [0, 0, 0]),
            (memory(2), [0]),
        )

    def test_it_has_the_book_of_when_it_was_asked(self):
        self.check(
            (begin(1), [0]),
            (take(0, 1, 5, 0, 5), [0, 1]),
            (ask(1), [0, 1]),
            (send(0, 1), [0, 2]),
            (send(0, 2), [0, 3]),
            (deliver(2), [0, 1]),
            (deliver(3), [0, 1]),
            (deliver(1), [0, 1, 4]),
        )

    def test_what_is_sent_back_is_of_when_it_comes(self):
        self.check(
            (begin(1), [0]),
            (ask(1), [0, 1]),
            (take(0, 1, 5, 0, 5), [0, 1]),
            (send(0, 2), [0, 2]),
            (deliver(2), [0, 1]),
            (deliver(1), [0, 1, 3]),
            (take(0, 1, 6, 0, 5), [0, 1]),
            (send(0, 2), [0, 4]),
            (deliver(4), [0, 1]),
            (deliver(3), [0, 1]),
            (memory(1), [0, 1, 5, 0, 5]),
        )

    def test_doubled_each_brings_what_is_news_for_it(self):
        self.check_after(
            self.line_with_books(),
            (ask(2), [0, 5]),
            (double(5), [0, 6]),
            (deliver(6), [0, 1, 7]),
            (deliver(7), [0, 1]),
            (deliver(5), [0, 1, 8]),
            (deliver(8), [0, 1]),
            (memory(2), [0] + self.together),
        )


class Fillings(LineCase):
    def line_with_filling(self):
        """Give back a line in which message 3 fills centre 1 with (1, 5, 0, 5); message 4 is the next."""
        return [begin(1), take(0, 1, 5, 0, 5), send(0, 2), deliver(1), ask(1), deliver(2)]

    def test_comes_into_the_memory(self):
        self.check_after(self.line_with_filling(), (deliver(3), [0, 1]), (memory(1), [0, 1, 5, 0, 5]))

    def test_may_be_lost(self):
        self.check_after(
            self.line_with_filling(), (lose(3), [0]), (deliver(3), [-4]), (memory(1), [0]), (ask(1), [0, 4]),
        )

    def test_without_power_nothing_comes(self):
        self.check_after(
            self.line_with_filling(), (cut(1), [0]), (deliver(3), [0, 0]), (up(1), [0, 0, 0]), (memory(1), [0]),
        )

    def test_of_what_is_there_and_what_comes_the_greater_stands(self):
        for there, standing in (
            ((6, 0, 5), (6, 0, 5)), ((5, 0, 6), (5, 0, 6)), ((5, 1, 0), (5, 1, 0)),
            ((5, 0, 4), (5, 0, 5)), ((4, 0, 9), (5, 0, 5)), ((4, 1, 0), (5, 0, 5)),
        ):
            line = self.line_with_filling() + [cut(0), up(0), take(0, 1, *there), send(0, 1), deliver(4)]
            self.check_after(
                line,
                (memory(1), [0, 1] + list(there)),
                (deliver(3), [0, 1]),
                (memory(1), [0, 1] + list(standing)),
            )

    def test_doubled_it_changes_nothing_more(self):
        self.check_after(
            self.line_with_filling(),
            (double(3), [0, 4]),
            (deliver(4), [0, 1]),
            (deliver(3), [0, 1]),
            (memory(1), [0, 1, 5, 0, 5]),
            (keep(1), [0, 1]),
        )

    def test_late_it_comes_to_a_memory_that_was_lost(self):
        self.check_after(
            self.line_with_filling(),
            (torn(1, 1), [0]),
            (up(1), [0, 0, 0]),
            (deliver(3), [0, 1]),
            (memory(1), [0, 1, 5, 0, 5]),
        )

    def test_it_is_kept_only_by_keeping(self):
        self.check_after(
            self.line_with_filling(), (deliver(3), [0, 1]), (cut(1), [0]), (up(1), [0, 0, 0]), (memory(1), [0]),
        )
        self.check_after(
            self.line_with_filling(), (deliver(3), [0, 1]), (keep(1), [0, 1]), (cut(1), [0]), (up(1), [0, 1, 1]),
        )


class Numbers(LineCase):
    def test_numbers_go_on_through_all_kinds(self):
        self.check(
            (begin(1), [0]),
            (ask(2), [0, 1]),
            (take(0, 1, 5, 0, 5), [0, 1]),
            (send(0, 1), [0, 2]),
            (double(1), [0, 3]),
            (deliver(2), [0, 1]),
            (keep(1), [0, 1, 4]),
            (deliver(3), [0, 1, 5]),
            (double(5), [0, 6]),
            (lose(6), [0]),
            (ask(1), [0, 7]),
        )

    def test_a_number_is_not_given_again(self):
        self.check((begin(1), [0]), (ask(1), [0, 1]), (lose(1), [0]), (ask(1), [0, 2]), (lose(1), [-4]))

    def test_a_message_that_comes_or_is_lost_leaves_the_others(self):
        self.check(
            (begin(1), [0]),
            (ask(1), [0, 1]),
            (ask(1), [0, 2]),
            (ask(1), [0, 3]),
            (lose(2), [0]),
            (deliver(3), [0, 1]),
            (double(1), [0, 4]),
            (deliver(1), [0, 1]),
            (deliver(4), [0, 1]),
        )


class Lose(LineCase):
    def test_what_was_lost_changes_nothing(self):
        self.check(
            (begin(1), [0]),
            (take(0, 1, 5, 0, 5), [0, 1]),
            (send(0, 1), [0, 1]),
            (lose(1), [0]),
            (memory(1), [0]),
            (keep(1), [0, 1]),
            (send(0, 1), [0, 2]),
        )


class Double(LineCase):
    def test_the_other_is_of_the_same_kind_and_for_the_same_node(self):
        self.check(
            (begin(2), [0]),
            (take(1, 1, 5, 0, 5), [0, 1]),
            (send(1, 3), [0, 1]),
            (double(1), [0, 2]),
            (lose(1), [0]),
            (deliver(2), [0, 1]),
            (memory(3), [0, 1, 5, 0, 5]),
            (memory(2), [0]),
            (keep(3), [0, 1, 3]),
            (double(3), [0, 4]),
            (lose(3), [0]),
            (deliver(4), [0, 1]),
            (send(1, 3), [-4]),
            (ask(2), [0, 5]),
            (double(5), [0, 6]),
            (lose(5), [0]),
            (deliver(6), [0, 1, 7]),
            (double(7), [0, 8]),
            (lose(7), [0]),
            (deliver(8), [0, 1]),
            (memory(2), [0, 1, 5, 0, 5]),
        )

    def test_a_doubled_one_may_be_doubled(self):
        self.check(
            (begin(1), [0]),
            (ask(1), [0, 1]),
            (double(1), [0, 2]),
            (double(2), [0, 3]),
            (deliver(1), [0, 1]),
            (double(3), [0, 4]),
            (deliver(4), [0, 1]),
            (deliver(3), [0, 1]),
            (deliver(2), [0, 1]),
        )

    def test_it_is_sent_to_a_node_without_power_too(self):
        self.check((begin(1), [0]), (ask(1), [0, 1]), (cut(1), [0]), (cut(2), [0]), (double(1), [0, 2]))


if __name__ == "__main__":
    unittest.main()
