"""What lacks tells of the news between two nodes, and when all is even."""

import unittest

from tests.lines import (
    LineCase, answers_of, ask, begin, cut, deliver, even, keep, lacks, send, take, torn, up,
)

FIRST_BOOK = [take(0, 10, 5, 0, 5), take(0, 2, 5, 0, 5), take(0, 3, 5, 1, 0), take(0, 4, 5, 0, 5), take(0, 1, 6, 0, 0)]
SECOND_BOOK = [take(1, 11, 5, 0, 5), take(1, 2, 5, 0, 5), take(1, 3, 5, 0, 9), take(1, 4, 5, 0, 6), take(1, 1, 5, 1, 0)]


class Lacks(LineCase):
    def test_nothing_between_empty_books(self):
        self.check((begin(1), [0]), (lacks(0, 1), [0]), (lacks(1, 2), [0]), (lacks(2, 0), [0]))

    def test_the_first_ones_news_for_the_second_one(self):
        self.check_after(
            [begin(2)] + FIRST_BOOK + SECOND_BOOK,
            (lacks(0, 1), [0, 1, 3, 10]),
            (lacks(1, 0), [0, 4, 11]),
            (lacks(0, 2), [0, 1, 2, 3, 4, 10]),
            (lacks(2, 0), [0]),
            (lacks(1, 3), [0, 1, 2, 3, 4, 11]),
        )

    def test_one_and_the_same_node(self):
        for node in (0, 1, 2, 3):
            self.check_after([begin(2)] + FIRST_BOOK + [send(0, 2), deliver(1)], (lacks(node, node), [0]))

    def test_lesser_the_same_and_greater_ones(self):
        for first, second, news in (
            ((5, 0, 5), (5, 0, 5), []), ((5, 1, 0), (5, 1, 0), []),
            ((5, 0, 5), (5, 0, 4), [7]), ((5, 0, 4), (5, 0, 5), []),
            ((5, 0, 1), (4, 0, 9), [7]), ((4, 0, 9), (5, 0, 1), []),
            ((6, 0, 1), (5, 1, 0), [7]), ((5, 1, 0), (6, 0, 1), []),
        ):
            self.check_after(
                [begin(2), take(0, 7, *first), take(1, 7, *second)], (lacks(0, 1), [0] + news),
            )

    def test_withdrawn_ones(self):
        self.check(
            (begin(2), [0]),
            (take(0, 7, 5, 1, 3), [0, 1]),
            (lacks(0, 1), [0, 7]),
            (take(1, 7, 5, 0, 999), [0, 1]),
            (lacks(0, 1), [0, 7]),
            (lacks(1, 0), [0]),
            (take(1, 7, 5, 1, 4), [0, 1]),
            (lacks(0, 1), [0]),
            (lacks(1, 0), [0]),
            (take(1, 7, 6, 0, 0), [0, 1]),
            (lacks(0, 1), [0]),
            (lacks(1, 0), [0, 7]),
        )

    def test_offices_and_centres(self):
        self.check(
            (begin(2), [0]),
            (take(0, 7, 5, 0, 3), [0, 1]),
            (take(0, 4, 5, 0, 3), [0, 1]),
            (lacks(0, 3), [0, 4, 7]),
            (send(0, 3), [0, 1]),
            (deliver(1), [0, 1]),
            (lacks(0, 3), [0]),
            (lacks(3, 0), [0]),
            (lacks(3, 2), [0, 4, 7]),
            (lacks(3, 1), [0, 4, 7]),
            (lacks(2, 3), [0]),
        )

    def test_it_is_of_the_memory_and_not_of_a_slot(self):
        self.check(
            (begin(1), [0]),
            (take(0, 7, 5, 0, 3), [0, 1]),
            (keep(0), [0, 1]),
            (take(0, 8, 5, 0, 3), [0, 1]),
            (lacks(0, 1), [0, 7, 8]),
            (cut(0), [0]),
            (lacks(0, 1), [-3]),
            (up(0), [0, 1, 1]),
            (lacks(0, 1), [0, 7]),
        )

    def test_all_forms(self):
        line = [begin(4)] + [take(3, form, 1, form % 2, 0) for form in range(20, 0, -1)]
        self.check_after(line, (lacks(3, 5), [0] + list(range(1, 21))), (lacks(5, 3), [0]))


class Even(LineCase):
    def test_where_nothing_is_anywhere(self):
        for offices in (1, 2, 3, 4):
            self.check((begin(offices), [0]), (even(), [0, 1]))

    def both_have(self):
        """Give back a line in which office 0 and both centres have one item of form 5; message 3 is the next."""
        return [begin(2), take(0, 5, 3, 0, 5), send(0, 2), send(0, 3), deliver(1), deliver(2)]

    def test_where_both_centres_have_the_same(self):
        self.check(
            (begin(2), [0]),
            (take(0, 5, 3, 0, 5), [0, 1]),
            (even(), [0, 0]),
            (send(0, 2), [0, 1]),
            (send(0, 3), [0, 2]),
            (even(), [0, 0]),
            (deliver(1), [0, 1]),
            (even(), [0, 0]),
            (deliver(2), [0, 1]),
            (even(), [0, 1]),
        )

    def test_a_centre_without_power(self):
        for centre in (2, 3):
            for end in (cut(centre), torn(centre, 0), torn(centre, 1)):
                self.check((begin(2), [0]), (end, [0]), (even(), [0, 0]), (up(centre), [0, 0, 0]), (even(), [0, 1]))
                self.check_after(self.both_have(), (end, [0]), (even(), [0, 0]))
                self.check_after(self.both_have() + [keep(centre)], (end, [0]), (even(), [0, 0]),
                                 (up(centre), [0, 1, 1]), (even(), [0, 1]))

    def test_both_centres_without_power(self):
        self.check((begin(2), [0]), (cut(2), [0]), (cut(3), [0]), (even(), [0, 0]))

    def test_different_books(self):
        # No office has anything any more, so it's the centres' books alone that differ.
        for first, second in (
            ([], [(5, 3, 0, 5)]), ([(5, 3, 0, 5)], [(5, 4, 0, 5)]), ([(5, 3, 0, 5)], [(5, 3, 0, 6)]),
            ([(5, 3, 0, 0)], [(5, 3, 1, 0)]), ([(5, 3, 0, 5)], [(6, 3, 0, 5)]),
            ([(5, 3, 0, 5)], [(5, 3, 0, 5), (6, 1, 0, 0)]),
        ):
            for one, other in ((first, second), (second, first)):
                line = [begin(2)] + [take(0, *item) for item in one] + [take(1, *item) for item in other]
                sent = 0
                for office, held in ((0, one), (1, other)):
                    if held:
                        sent += 1
                        line += [send(office, 2 + office), deliver(sent)]
                self.assertEqual(answers_of(line + [cut(0), cut(1), even()])[-1], [0, 0], (one, other))

    def test_the_same_book_that_came_in_another_order(self):
        self.check(
            (begin(2), [0]),
            (take(0, 5, 3, 0, 5), [0, 1]),
            (take(1, 4, 3, 0, 5), [0, 1]),
            (send(0, 2), [0, 1]),
            (send(0, 3), [0, 2]),
            (send(1, 2), [0, 3]),
            (send(1, 3), [0, 4]),
            (deliver(1), [0, 1]),
            (deliver(3), [0, 1]),
            (deliver(4), [0, 1]),
            (even(), [0, 0]),
            (deliver(2), [0, 1]),
            (even(), [0, 1]),
        )

    def test_an_office_that_has_news(self):
        for office in (0, 1):
            for item in ((6, 1, 0, 0), (5, 4, 0, 0), (5, 3, 1, 0), (5, 3, 0, 6)):
                self.check_after(self.both_have(), (take(office, *item), [0, 1]), (even(), [0, 0]))

    def test_the_last_of_four_offices_has_news(self):
        self.check((begin(4), [0]), (take(3, 1, 1, 0, 0), [0, 1]), (even(), [0, 0]), (cut(3), [0]), (even(), [0, 1]))

    def test_an_office_that_has_less_or_the_same(self):
        for item in ((5, 2, 0, 9), (5, 2, 1, 0), (5, 3, 0, 4), (5, 3, 0, 5)):
            self.check_after(self.both_have(), (take(1, *item), [0, 1]), (even(), [0, 1]))

    def test_an_office_without_power_has_no_news(self):
        for end in (cut(1), torn(1, 0), torn(1, 1)):
            self.check_after(
                self.both_have(),
                (take(1, 6, 1, 0, 0), [0, 1]),
                (keep(1), [0, 1]),
                (even(), [0, 0]),
                (end, [0]),
                (even(), [0, 1]),
                (up(1), [0, 1, 1]),
                (even(), [0, 0]),
            )

    def test_receipts_do_not_count(self):
        self.check_after(
            self.both_have(),
            (keep(2), [0, 1, 3]),
            (even(), [0, 1]),
            (deliver(3), [0, 1]),
            (even(), [0, 1]),
            (take(0, 5, 4, 0, 0), [0, 1]),
            (even(), [0, 0]),
        )

    def test_messages_under_way_do_not_count(self):
        self.check_after(
            self.both_have(),
            (ask(2), [0, 3]),
            (take(1, 5, 4, 0, 0), [0, 1]),
            (send(1, 2), [0, 4]),
            (send(1, 3), [0, 5]),
            (cut(1), [0]),
            (even(), [0, 1]),
            (deliver(4), [0, 1]),
            (even(), [0, 0]),
            (deliver(5), [0, 1]),
            (even(), [0, 1]),
        )


if __name__ == "__main__":
    unittest.main()
