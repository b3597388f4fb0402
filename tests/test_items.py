"""Items and books: which of two items of one form is the greater, and how a book is told."""

import unittest

from tests.lines import LineCase, ask, begin, cut, deliver, keep, memory, send, take, up

# Of one form, each lesser than the next: version, withdrawn, what's told in the call.
ASCENDING = [
    (1, 0, 0), (1, 0, 1), (1, 0, 998), (1, 0, 999), (1, 1, 0),
    (2, 0, 0), (2, 0, 500), (2, 1, 999),
    (999, 0, 7), (1000, 0, 3), (1000, 0, 4), (1000, 1, 2),
]


def stands(form, version, withdrawn, tells):
    """Give back the numbers by which the item is told."""
    return [form, version, withdrawn, 0 if withdrawn else tells]


class TheGreater(LineCase):
    def test_taken_in_one_behind_another(self):
        for first, lesser in enumerate(ASCENDING):
            for greater in ASCENDING[first + 1:]:
                self.check(
                    (begin(1), [0]),
                    (take(0, 3, *lesser), [0, 1]),
                    (take(0, 3, *greater), [0, 1]),
                    (memory(0), [0] + stands(3, *greater)),
                    (take(0, 3, *lesser), [0, 0]),
                    (memory(0), [0] + stands(3, *greater)),
                )

    def test_come_with_messages_of_kind_1(self):
        for first, lesser in enumerate(ASCENDING):
            for greater in ASCENDING[first + 1:]:
                self.check(
                    (begin(2), [0]),
                    (take(0, 3, *lesser), [0, 1]),
                    (take(1, 3, *greater), [0, 1]),
                    (send(0, 2), [0, 1]),
                    (send(1, 2), [0, 2]),
                    (send(0, 3), [0, 3]),
                    (send(1, 3), [0, 4]),
                    (deliver(1), [0, 1]),
                    (memory(2), [0] + stands(3, *lesser)),
                    (deliver(2), [0, 1]),
                    (memory(2), [0] + stands(3, *greater)),
                    (deliver(4), [0, 1]),
                    (deliver(3), [0, 1]),
                    (memory(3), [0] + stands(3, *greater)),
                )

    def test_as_news_for_a_summary(self):
        for first, lesser in enumerate(ASCENDING):
            for greater in ASCENDING[first + 1:]:
                self.check(
                    (begin(2), [0]),
                    (take(0, 3, *lesser), [0, 1]),
                    (take(1, 3, *greater), [0, 1]),
                    (send(0, 2), [0, 1]),
                    (send(1, 3), [0, 2]),
                    (deliver(1), [0, 1]),
                    (deliver(2), [0, 1]),
                    (ask(3), [0, 3]),
                    (deliver(3), [0, 1]),
                    (ask(2), [0, 4]),
                    (deliver(4), [0, 1, 5]),
                    (deliver(5), [0, 1]),
                    (memory(2), [0] + stands(3, *greater)),
                )

    def test_an_item_is_not_greater_than_itself(self):
        for item in ASCENDING:
            self.check(
                (begin(1), [0]),
                (take(0, 3, *item), [0, 1]),
                (take(0, 3, *item), [0, 1]),
                (memory(0), [0] + stands(3, *item)),
            )


class Withdrawn(LineCase):
    def test_tells_0_whatever_was_told(self):
        for told in (0, 1, 500, 999):
            self.check((begin(1), [0]), (take(0, 4, 2, 1, told), [0, 1]), (memory(0), [0, 4, 2, 1, 0]))

    def test_told_otherwise_it_is_the_very_same_item(self):
        self.check(
            (begin(1), [0]),
            (take(0, 4, 2, 1, 9), [0, 1]),
            (take(0, 4, 2, 1, 0), [0, 1]),
            (take(0, 4, 2, 1, 999), [0, 1]),
            (memory(0), [0, 4, 2, 1, 0]),
            (send(0, 1), [0, 1]),
            (deliver(1), [0, 1]),
            (keep(1), [0, 1, 2]),
            (deliver(2), [0, 1]),
            (take(0, 4, 2, 1, 77), [0, 1]),
            (send(0, 1), [-4]),
        )

    def test_stays_0_through_messages_and_slots(self):
        self.check(
            (begin(1), [0]),
            (take(0, 4, 2, 1, 9), [0, 1]),
            (keep(0), [0, 1]),
            (send(0, 1), [0, 1]),
            (deliver(1), [0, 1]),
            (memory(1), [0, 4, 2, 1, 0]),
            (cut(0), [0]),
            (up(0), [0, 1, 1]),
            (memory(0), [0, 4, 2, 1, 0]),
        )

    def test_what_is_not_withdrawn_tells_what_was_told(self):
        for told in (0, 1, 500, 999):
            self.check((begin(1), [0]), (take(0, 4, 2, 0, told), [0, 1]), (memory(0), [0, 4, 2, 0, told]))


class Books(LineCase):
    def test_items_stand_by_their_forms_numbers_ascending(self):
        forms = [10, 2, 20, 1, 9, 11, 3]
        told = []
        for form in sorted(forms):
            told += [form, 21 - form, 0, form * 7]
        line = [begin(1)] + [take(0, form, 21 - form, 0, form * 7) for form in forms]
        self.check_after(line, (memory(0), [0] + told), (send(0, 1), [0, 1]), (deliver(1), [0, 1]),
                         (memory(1), [0] + told))

    def test_all_twenty_forms(self):
        line = [begin(1)] + [take(0, form, 1, 0, form) for form in range(20, 0, -1)]
        told = [number for form in range(1, 21) for number in (form, 1, 0, form)]
        self.check_after(line, (memory(0), [0] + told), (keep(0), [0, 1]), (cut(0), [0]), (up(0), [0, 1, 20]),
                         (memory(0), [0] + told))

    def test_forms_do_not_touch_one_another(self):
        self.check(
            (begin(1), [0]),
            (take(0, 2, 1000, 1, 0), [0, 1]),
            (take(0, 1, 1, 0, 0), [0, 1]),
            (take(0, 3, 1, 0, 1), [0, 1]),
            (memory(0), [0, 1, 1, 0, 0, 2, 1000, 1, 0, 3, 1, 0, 1]),
        )

    def test_nodes_have_books_of_their_own(self):
        self.check(
            (begin(2), [0]),
            (take(0, 1, 1, 0, 8), [0, 1]),
            (memory(0), [0, 1, 1, 0, 8]),
            (memory(1), [0]),
            (memory(2), [0]),
            (memory(3), [0]),
            (take(1, 1, 2, 0, 8), [0, 1]),
            (memory(0), [0, 1, 1, 0, 8]),
        )


if __name__ == "__main__":
    unittest.main()
