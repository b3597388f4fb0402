"""What receipts, owed, acknowledged and taken tell: who has what on record, and in which order."""

import unittest

from tests.lines import (
    LineCase, acknowledged, answers_of, ask, begin, cut, deliver, double, keep, lose, memory, owed, receipts, send,
    take, taken, torn, up,
)

# Centre 1 has kept office 0's item of form 4; its receipt is message 2.
RECEIPT_UNDER_WAY = [begin(1), take(0, 4, 2, 0, 8), keep(0), send(0, 1), deliver(1), keep(1)]


def acknowledge(office, centre, message):
    """Give back the calls by which the centre acknowledges what the office has; message is the next one's number."""
    return [send(office, centre), deliver(message), keep(centre), deliver(message + 1)]


class Receipts(LineCase):
    def test_there_are_none(self):
        for offices in (1, 4):
            for office in range(offices):
                self.check((begin(offices), [0]), (receipts(office), [0]))
        self.check_after(RECEIPT_UNDER_WAY, (receipts(0), [0]), (lose(2), [0]), (receipts(0), [0]))

    def test_from_one_centre(self):
        self.check_after(RECEIPT_UNDER_WAY, (deliver(2), [0, 1]), (receipts(0), [0, 4, 1]))

    def test_of_several_centres_by_the_forms_then_the_centres(self):
        line = [begin(2)] + [take(0, form, 2, 0, form) for form in (10, 2, 3)]
        line += acknowledge(0, 3, 1) + [take(0, 1, 2, 0, 1)] + acknowledge(0, 2, 3) + [take(0, 20, 2, 0, 1)]
        self.check_after(line, (receipts(0), [0, 1, 2, 2, 2, 2, 3, 3, 2, 3, 3, 10, 2, 10, 3]), (receipts(1), [0]))

    def test_by_the_forms_and_not_as_they_came(self):
        line = [begin(1), take(0, 9, 2, 0, 9)] + acknowledge(0, 1, 1) + [take(0, 8, 3, 0, 9)] + acknowledge(0, 1, 3)
        self.check_after(line, (receipts(0), [0, 8, 1, 9, 1]))

    def test_each_once(self):
        self.check_after(
            RECEIPT_UNDER_WAY,
            (send(0, 1), [0, 3]),
            (double(2), [0, 4]),
            (deliver(2), [0, 1]),
            (deliver(4), [0, 1]),
            (receipts(0), [0, 4, 1]),
            (deliver(3), [0, 1]),
            (keep(1), [0, 2, 5]),
            (deliver(5), [0, 1]),
            (receipts(0), [0, 4, 1]),
        )

    def test_a_greater_item_drops_those_of_its_form(self):
        line = [begin(1), take(0, 4, 2, 0, 8), take(0, 5, 2, 0, 8)] + acknowledge(0, 1, 1) + acknowledge(0, 2, 3)
        self.check_after(line, (receipts(0), [0, 4, 1, 4, 2, 5, 1, 5, 2]))
        for greater in ((3, 0, 0), (2, 1, 0), (2, 0, 9)):
            self.check_after(line, (take(0, 4, *greater), [0, 1]), (receipts(0), [0, 5, 1, 5, 2]))
        for other in ((1, 1, 0), (2, 0, 7), (2, 0, 8)):
            self.check_after(line + [take(0, 4, *other)], (receipts(0), [0, 4, 1, 4, 2, 5, 1, 5, 2]))

    def test_one_for_an_item_that_does_not_stand_any_more_is_dropped(self):
        for greater in ((3, 0, 0), (2, 1, 0), (2, 0, 9)):
            self.check_after(
                RECEIPT_UNDER_WAY,
                (take(0, 4, *greater), [0, 1]),
                (deliver(2), [0, 1]),
                (receipts(0), [0]),
                (memory(0), [0, 4] + list(greater)),
                (acknowledged(), [0, 1, 4, 2, 0, 8]),
            )

    def test_one_for_an_item_that_does_not_stand_yet_is_dropped(self):
        self.check(
            (begin(1), [0]),
            (take(0, 4, 2, 0, 7), [0, 1]),
            (keep(0), [0, 1]),
            (take(0, 4, 2, 0, 8), [0, 1]),
            (send(0, 1), [0, 1]),
            (deliver(1), [0, 1]),
            (keep(1), [0, 1, 2]),
            (cut(0), [0]),
            (up(0), [0, 1, 1]),
            (deliver(2), [0, 1]),
            (receipts(0), [0]),
            (take(0, 4, 2, 0, 8), [0, 1]),
            (receipts(0), [0]),
        )

    def test_a_dropped_one_does_not_come_back_with_its_item(self):
        self.check_after(
            RECEIPT_UNDER_WAY,
            (deliver(2), [0, 1]),
            (take(0, 4, 3, 0, 0), [0, 1]),
            (cut(0), [0]),
            (up(0), [0, 1, 1]),
            (memory(0), [0, 4, 2, 0, 8]),
            (receipts(0), [0]),
        )

    def test_those_that_were_kept_come_back_with_the_power(self):
        for end in (cut(0), torn(0, 0), torn(0, 1)):
            self.check_after(
                RECEIPT_UNDER_WAY,
                (deliver(2), [0, 1]),
                (keep(0), [0, 2]),
                (take(0, 4, 3, 0, 0), [0, 1]),
                (receipts(0), [0]),
                (end, [0]),
                (receipts(0), [-3]),
                (up(0), [0, 2, 1]),
                (receipts(0), [0, 4, 1]),
            )
            self.check_after(
                RECEIPT_UNDER_WAY,
                (deliver(2), [0, 1]),
                (end, [0]),
                (up(0), [0, 1, 1]),
                (receipts(0), [0]),
            )

    def test_where_no_power_is_a_receipt_is_gone(self):
        self.check_after(
            RECEIPT_UNDER_WAY, (cut(0), [0]), (deliver(2), [0, 0]), (up(0), [0, 1, 1]), (receipts(0), [0]),
        )

    def test_each_office_has_its_own(self):
        line = [begin(2), take(0, 4, 2, 0, 8), take(1, 4, 2, 0, 8)]
        self.check_after(line + acknowledge(1, 2, 1), (receipts(0), [0]), (receipts(1), [0, 4, 2]))
        self.check_after(line + acknowledge(0, 3, 1), (receipts(0), [0, 4, 3]), (receipts(1), [0]))

    def test_all_forms_from_both_centres(self):
        line = [begin(4)] + [take(3, form, 1, 0, 0) for form in range(20, 0, -1)]
        line += acknowledge(3, 5, 1) + acknowledge(3, 4, 3)
        told = [number for form in range(1, 21) for number in (form, 4, form, 5)]
        self.check_after(line, (receipts(3), [0] + told))

    def test_a_new_begin_has_none(self):
        self.check_after(RECEIPT_UNDER_WAY + [deliver(2)], (receipts(0), [0, 4, 1]), (begin(1), [0]),
                         (receipts(0), [0]), (take(0, 4, 2, 0, 8), [0, 1]), (receipts(0), [0]))


class Owed(LineCase):
    def test_nothing(self):
        for offices in (1, 4):
            for centre in (offices, offices + 1):
                self.check((begin(offices), [0]), (owed(centre), [0]))

    def test_as_they_came_to_be_owed(self):
        line = [
            begin(2), take(0, 5, 1, 0, 5), send(0, 2), take(0, 3, 1, 1, 5), send(0, 2), take(1, 4, 1, 0, 6), send(1, 2),
        ]
        self.check_after(
            line,
            (deliver(1), [0, 1]),
            (owed(2), [0, 0, 5, 1, 0, 5]),
            (deliver(3), [0, 1]),
            (owed(2), [0, 0, 5, 1, 0, 5, 1, 4, 1, 0, 6]),
            (deliver(2), [0, 1]),
            (owed(2), [0, 0, 5, 1, 0, 5, 1, 4, 1, 0, 6, 0, 3, 1, 1, 0]),
            (owed(3), [0]),
        )
        self.check_after(
            line,
            (deliver(3), [0, 1]),
            (deliver(2), [0, 1]),
            (deliver(1), [0, 1]),
            (owed(2), [0, 1, 4, 1, 0, 6, 0, 3, 1, 1, 0, 0, 5, 1, 0, 5]),
        )

    def test_each_once_for_each_office(self):
        self.check(
            (begin(2), [0]),
            (take(0, 5, 1, 0, 5), [0, 1]),
            (take(1, 5, 1, 0, 5), [0, 1]),
            (send(0, 2), [0, 1]),
            (send(1, 2), [0, 2]),
            (double(1), [0, 3]),
            (double(2), [0, 4]),
            (deliver(2), [0, 1]),
            (deliver(1), [0, 1]),
            (deliver(4), [0, 1]),
            (deliver(3), [0, 1]),
            (owed(2), [0, 1, 5, 1, 0, 5, 0, 5, 1, 0, 5]),
        )

    def test_also_for_items_that_do_not_stand(self):
        self.check(
            (begin(2), [0]),
            (take(0, 5, 2, 0, 5), [0, 1]),
            (take(1, 5, 1, 0, 9), [0, 1]),
            (send(0, 3), [0, 1]),
            (send(1, 3), [0, 2]),
            (deliver(1), [0, 1]),
            (deliver(2), [0, 1]),
            (memory(3), [0, 5, 2, 0, 5]),
            (owed(3), [0, 0, 5, 2, 0, 5, 1, 5, 1, 0, 9]),
        )

    def test_also_for_items_over_which_a_greater_one_came(self):
        self.check(
            (begin(1), [0]),
            (take(0, 5, 2, 0, 5), [0, 1]),
            (send(0, 1), [0, 1]),
            (take(0, 5, 2, 0, 6), [0, 1]),
            (send(0, 1), [0, 2]),
            (deliver(1), [0, 1]),
            (deliver(2), [0, 1]),
            (owed(1), [0, 0, 5, 2, 0, 5, 0, 5, 2, 0, 6]),
        )

    def test_a_keep_owes_none_any_more(self):
        self.check_after(
            RECEIPT_UNDER_WAY,
            (owed(1), [0]),
            (send(0, 1), [0, 3]),
            (deliver(3), [0, 1]),
            (owed(1), [0, 0, 4, 2, 0, 8]),
            (keep(2), [0, 1]),
            (keep(0), [0, 2]),
            (owed(1), [0, 0, 4, 2, 0, 8]),
            (keep(1), [0, 2, 4]),
            (owed(1), [0]),
        )

    def test_with_the_power_it_is_gone(self):
        for end in (cut(1), torn(1, 0), torn(1, 1)):
            self.check(
                (begin(1), [0]),
                (take(0, 5, 2, 0, 5), [0, 1]),
                (send(0, 1), [0, 1]),
                (deliver(1), [0, 1]),
                (owed(1), [0, 0, 5, 2, 0, 5]),
                (end, [0]),
                (owed(1), [-3]),
                (up(1), [0, 0, 0]),
                (owed(1), [0]),
            )

    def test_nothing_is_owed_for_other_kinds_or_without_power(self):
        self.check_after(
            RECEIPT_UNDER_WAY,
            (ask(2), [0, 3]),
            (deliver(3), [0, 1, 4]),
            (deliver(4), [0, 1]),
            (deliver(2), [0, 1]),
            (owed(1), [0]),
            (owed(2), [0]),
            (send(0, 2), [0, 5]),
            (cut(2), [0]),
            (deliver(5), [0, 0]),
            (up(2), [0, 0, 0]),
            (owed(2), [0]),
        )

    def test_what_the_receipt_says_is_what_was_owed(self):
        line = [begin(4)]
        for number, office in enumerate((3, 1, 0, 2)):
            line += [take(office, 7, office + 1, 0, 5), send(office, 5), deliver(number + 1)]
        told = [number for office in (3, 1, 0, 2) for number in (office, 7, office + 1, 0, 5)]
        self.check_after(line, (owed(5), [0] + told), (owed(4), [0]), (keep(5), [0, 1, 5, 6, 7, 8]), (owed(5), [0]))


class Acknowledged(LineCase):
    def test_nothing(self):
        self.check((begin(1), [0]), (acknowledged(), [0]))
        self.check_after(RECEIPT_UNDER_WAY, (acknowledged(), [0]), (lose(2), [0]), (acknowledged(), [0]))

    def test_when_the_receipt_comes(self):
        self.check_after(RECEIPT_UNDER_WAY, (deliver(2), [0, 1]), (acknowledged(), [0, 1, 4, 2, 0, 8]))

    def test_where_no_power_is_nothing_is_acknowledged(self):
        self.check_after(
            RECEIPT_UNDER_WAY, (cut(0), [0]), (deliver(2), [0, 0]), (acknowledged(), [0]), (up(0), [0, 1, 1]),
            (acknowledged(), [0]),
        )

    def test_in_the_order_in_which_it_came_about(self):
        line = [begin(2), take(0, 9, 1, 0, 5), take(1, 2, 1, 1, 5)]
        line += [send(0, 3), send(1, 2), send(0, 2), deliver(1), deliver(2), deliver(3), keep(2), keep(3)]
        # Messages 4 and 5 are centre 2's receipts for offices 0 and 1, message 6 is centre 3's for office 0.
        self.check_after(
            line + [deliver(6), deliver(4), deliver(5)],
            (acknowledged(), [0, 3, 9, 1, 0, 5, 2, 9, 1, 0, 5, 2, 2, 1, 1, 0]),
        )
        self.check_after(
            line + [deliver(5), deliver(6), deliver(4)],
            (acknowledged(), [0, 2, 2, 1, 1, 0, 3, 9, 1, 0, 5, 2, 9, 1, 0, 5]),
        )

    def test_of_one_receipt_in_its_items_order(self):
        line = [begin(1), take(0, 5, 1, 0, 5), send(0, 1), take(0, 3, 1, 0, 5), send(0, 1)]
        self.check_after(
            line + [deliver(1), deliver(2), keep(1), deliver(3)],
            (acknowledged(), [0, 1, 5, 1, 0, 5, 1, 3, 1, 0, 5]),
        )
        self.check_after(
            line + [deliver(2), deliver(1), keep(1), deliver(3)],
            (acknowledged(), [0, 1, 3, 1, 0, 5, 1, 5, 1, 0, 5]),
        )

    def test_each_once_for_a_centre(self):
        line = [begin(2), take(0, 5, 1, 0, 5), take(0, 3, 1, 0, 5), take(1, 5, 1, 0, 5), take(1, 4, 1, 0, 5)]
        line += acknowledge(0, 2, 1)
        first = [0, 2, 3, 1, 0, 5, 2, 5, 1, 0, 5]
        self.check_after(line, (acknowledged(), first))
        self.check_after(line + acknowledge(1, 2, 3), (acknowledged(), first + [2, 4, 1, 0, 5]))
        self.check_after(line + acknowledge(1, 3, 3), (acknowledged(), first + [3, 4, 1, 0, 5, 3, 5, 1, 0, 5]))

    def test_a_doubled_receipt_acknowledges_nothing_more(self):
        self.check_after(
            RECEIPT_UNDER_WAY + [double(2), deliver(3), deliver(2)], (acknowledged(), [0, 1, 4, 2, 0, 8]),
        )

    def test_what_was_acknowledged_again_stays_where_it_was(self):
        line = [begin(1), take(0, 5, 1, 0, 5)] + acknowledge(0, 1, 1) + [take(0, 2, 1, 0, 5)] + acknowledge(0, 1, 3)
        line += [cut(0), up(0), take(0, 5, 1, 0, 5)] + acknowledge(0, 1, 5)
        self.check_after(line, (acknowledged(), [0, 1, 5, 1, 0, 5, 1, 2, 1, 0, 5]))

    def test_after_cuts_too(self):
        line = [begin(1), take(0, 5, 1, 0, 5)] + acknowledge(0, 1, 1) + [take(0, 2, 1, 0, 5)] + acknowledge(0, 2, 3)
        told = [0, 1, 5, 1, 0, 5, 2, 2, 1, 0, 5, 2, 5, 1, 0, 5]
        self.check_after(
            line,
            (acknowledged(), told),
            (cut(0), [0]),
            (acknowledged(), told),
            (torn(1, 1), [0]),
            (cut(2), [0]),
            (acknowledged(), told),
            (up(0), [0, 0, 0]),
            (up(1), [0, 1, 1]),
            (acknowledged(), told),
        )

    def test_also_for_an_item_that_does_not_stand_any_more(self):
        self.check_after(
            RECEIPT_UNDER_WAY,
            (take(0, 4, 3, 0, 8), [0, 1]),
            (deliver(2), [0, 1]),
            (acknowledged(), [0, 1, 4, 2, 0, 8]),
        )
        self.check_after(
            RECEIPT_UNDER_WAY[:2] + RECEIPT_UNDER_WAY[3:],
            (cut(0), [0]),
            (up(0), [0, 0, 0]),
            (deliver(2), [0, 1]),
            (memory(0), [0]),
            (receipts(0), [0]),
            (acknowledged(), [0, 1, 4, 2, 0, 8]),
        )

    def test_versions_of_one_form_stand_beside_each_other(self):
        line = [begin(1), take(0, 5, 1, 0, 5)] + acknowledge(0, 1, 1) + [take(0, 5, 1, 1, 5)] + acknowledge(0, 1, 3)
        self.check_after(line, (acknowledged(), [0, 1, 5, 1, 0, 5, 1, 5, 1, 1, 0]))

    def test_nothing_after_a_new_begin(self):
        self.check_after(
            RECEIPT_UNDER_WAY + [deliver(2)],
            (begin(9), [-1]),
            (acknowledged(), [0, 1, 4, 2, 0, 8]),
            (begin(1), [0]),
            (acknowledged(), [0]),
        )


class Taken(LineCase):
    def test_nothing(self):
        self.check((begin(1), [0]), (taken(), [0]))

    def test_each_once_in_the_order_in_which_they_first_were(self):
        self.check(
            (begin(2), [0]),
            (take(1, 9, 1, 0, 5), [0, 1]),
            (take(0, 2, 1, 0, 5), [0, 1]),
            (take(0, 9, 1, 0, 5), [0, 1]),
            (take(1, 4, 1, 0, 0), [0, 1]),
            (take(0, 2, 1, 0, 5), [0, 1]),
            (take(0, 2, 3, 0, 5), [0, 1]),
            (take(0, 2, 1, 0, 5), [0, 0]),
            (taken(), [0, 9, 1, 0, 5, 2, 1, 0, 5, 4, 1, 0, 0, 2, 3, 0, 5]),
        )

    def test_also_what_does_not_stand(self):
        self.check(
            (begin(1), [0]),
            (take(0, 2, 5, 0, 5), [0, 1]),
            (take(0, 2, 4, 0, 7), [0, 0]),
            (take(0, 2, 5, 0, 4), [0, 0]),
            (memory(0), [0, 2, 5, 0, 5]),
            (taken(), [0, 2, 5, 0, 5, 2, 4, 0, 7, 2, 5, 0, 4]),
        )

    def test_a_withdrawn_one_is_one_item_whatever_was_told(self):
        self.check(
            (begin(1), [0]),
            (take(0, 2, 5, 1, 5), [0, 1]),
            (take(0, 2, 5, 1, 999), [0, 1]),
            (take(0, 2, 5, 1, 0), [0, 1]),
            (take(0, 2, 5, 0, 0), [0, 0]),
            (taken(), [0, 2, 5, 1, 0, 2, 5, 0, 0]),
        )

    def test_not_what_was_refused(self):
        self.check(
            (take(0, 1, 1, 0, 1), [-7]),
            (begin(1), [0]),
            (take(1, 1, 1, 0, 1), [-1]),
            (take(0, 21, 1, 0, 1), [-1]),
            (cut(0), [0]),
            (take(0, 1, 1, 0, 1), [-3]),
            (taken(), [0]),
            (up(0), [0, 0, 0]),
            (take(0, 1, 1, 0, 1), [0, 1]),
            (taken(), [0, 1, 1, 0, 1]),
        )

    def test_after_cuts_too(self):
        self.check(
            (begin(1), [0]),
            (take(0, 2, 5, 0, 5), [0, 1]),
            (cut(0), [0]),
            (taken(), [0, 2, 5, 0, 5]),
            (up(0), [0, 0, 0]),
            (memory(0), [0]),
            (take(0, 1, 5, 0, 5), [0, 1]),
            (take(0, 2, 5, 0, 5), [0, 1]),
            (torn(0, 1), [0]),
            (taken(), [0, 2, 5, 0, 5, 1, 5, 0, 5]),
        )

    def test_messages_that_come_take_nothing_in(self):
        self.check_after(RECEIPT_UNDER_WAY, (deliver(2), [0, 1]), (ask(2), [0, 3]), (deliver(3), [0, 1, 4]),
                         (deliver(4), [0, 1]), (taken(), [0, 4, 2, 0, 8]))

    def test_nothing_after_a_new_begin(self):
        self.check_after(
            RECEIPT_UNDER_WAY,
            (begin(0), [-1]),
            (taken(), [0, 4, 2, 0, 8]),
            (begin(1), [0]),
            (taken(), [0]),
            (take(0, 5, 2, 0, 8), [0, 1]),
            (taken(), [0, 5, 2, 0, 8]),
        )

    def test_many(self):
        for offices in (1, 4):
            line = [begin(offices)]
            told = []
            for number in range(198):
                item = (20 - number % 20, 1000 - number, number % 2, 0 if number % 2 else number)
                line.append(take(number % offices, *item))
                told += item
            self.assertEqual(answers_of(line + [taken()])[-1], [0] + told)


if __name__ == "__main__":
    unittest.main()
