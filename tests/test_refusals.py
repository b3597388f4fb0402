"""The refusals of each call: ranges, power, what isn't there, too many messages, no begin."""

import unittest

from tests.lines import (
    LineCase, acknowledged, answers_of, ask, begin, cut, deliver, disk, double, even, flight, full_line, keep, lacks,
    lose, memory, message, owed, receipts, send, settle, state, take, taken, torn, up,
)

FAR = 10 ** 18

# One call of each kind but begin, with numbers that would do and with numbers that would be refused.
RIGHT_CALLS = [
    take(0, 1, 1, 0, 0), keep(0), torn(0, 0), cut(0), up(0), send(0, 1), ask(1),
    deliver(1), lose(1), double(1), memory(0), disk(0), receipts(0), flight(), message(1), acknowledged(),
    lacks(0, 2), even(), settle(), state(), owed(1), taken(),
]
WRONG_CALLS = [
    take(9, 0, 0, 2, -1), keep(-1), torn(7, 2), cut(99), up(-FAR), send(FAR, 0), ask(0),
    deliver(0), lose(-5), double(FAR), memory(6), disk(-1), receipts(4), message(-FAR), lacks(-1, FAR), owed(0),
]


class BeforeABegin(LineCase):
    def test_every_other_call_is_refused_with_7(self):
        for call in RIGHT_CALLS + WRONG_CALLS:
            self.check((call, [-7]))

    def test_a_refused_begin_is_no_begin(self):
        for call in RIGHT_CALLS + WRONG_CALLS:
            self.check((begin(0), [-1]), (call, [-7]), (begin(5), [-1]), (call, [-7]))

    def test_behind_a_begin_nothing_is_refused_with_7(self):
        for call in RIGHT_CALLS + WRONG_CALLS:
            self.assertNotEqual(answers_of([call, begin(1), begin(9), call])[3], [-7])

    def test_calls_that_were_refused_before_the_begin_did_nothing(self):
        self.check(
            (take(0, 1, 1, 0, 0), [-7]),
            (cut(0), [-7]),
            (ask(1), [-7]),
            (settle(), [-7]),
            (begin(1), [0]),
            (memory(0), [0]),
            (taken(), [0]),
            (state(), [0, 1, 0, 0, 0, 1, 0, 0, 0, 1, 0, 0, 0]),
            (ask(1), [0, 1]),
        )


class Begin(LineCase):
    def test_one_to_four_offices(self):
        for offices in (1, 2, 3, 4):
            self.check((begin(offices), [0]), (memory(offices + 1), [0]), (memory(offices + 2), [-1]))

    def test_other_numbers_are_refused(self):
        for offices in (0, 5, -1, FAR, -FAR):
            self.check((begin(offices), [-1]))


class Ranges(LineCase):
    def refused(self, offices, call):
        self.check((begin(offices), [0]), (call, [-1]))

    def answered(self, offices, call):
        self.assertEqual(answers_of([begin(offices), call])[1][0], 0, call)

    def test_take(self):
        for call in (
            take(0, 1, 1, 0, 0), take(2, 20, 1000, 1, 999), take(0, 20, 1, 1, 0), take(1, 1, 1000, 0, 999),
        ):
            self.answered(3, call)
        for call in (
            take(-1, 1, 1, 0, 0), take(3, 1, 1, 0, 0), take(4, 1, 1, 0, 0), take(5, 1, 1, 0, 0),
            take(0, 0, 1, 0, 0), take(0, 21, 1, 0, 0), take(0, -1, 1, 0, 0),
            take(0, 1, 0, 0, 0), take(0, 1, 1001, 0, 0), take(0, 1, -1, 0, 0),
            take(0, 1, 1, -1, 0), take(0, 1, 1, 2, 0),
            take(0, 1, 1, 0, -1), take(0, 1, 1, 0, 1000),
            take(FAR, 1, 1, 0, 0), take(0, FAR, 1, 0, 0), take(0, 1, FAR, 0, 0), take(0, 1, 1, FAR, 0),
            take(0, 1, 1, 0, FAR), take(-FAR, -FAR, -FAR, -FAR, -FAR),
        ):
            self.refused(3, call)

    def test_what_a_withdrawn_one_tells_has_its_range_too(self):
        self.refused(1, take(0, 1, 1, 1, -1))
        self.refused(1, take(0, 1, 1, 1, 1000))

    def test_keep_cut_memory_and_disk_are_for_every_node(self):
        for offices in (1, 2, 3, 4):
            for call in (keep, cut, memory, disk):
                for node in range(offices + 2):
                    self.answered(offices, call(node))
                for node in (-1, offices + 2, FAR, -FAR):
                    self.refused(offices, call(node))

    def test_torn(self):
        for offices in (1, 4):
            for begun in (0, 1):
                for node in range(offices + 2):
                    self.answered(offices, torn(node, begun))
                for node in (-1, offices + 2, FAR, -FAR):
                    self.refused(offices, torn(node, begun))
            for begun in (-1, 2, FAR, -FAR):
                self.refused(offices, torn(0, begun))

    def test_up(self):
        for offices in (1, 4):
            for node in range(offices + 2):
                self.check((begin(offices), [0]), (cut(node), [0]), (up(node), [0, 0, 0]))
            for node in (-1, offices + 2, FAR, -FAR):
                self.refused(offices, up(node))

    def test_send_is_from_an_office_to_a_centre(self):
        for offices in (1, 2, 4):
            last = offices - 1
            for centre in (offices, offices + 1):
                self.check((begin(offices), [0]), (take(last, 1, 1, 0, 0), [0, 1]), (send(last, centre), [0, 1]))
                for office in (-1, offices, offices + 1, offices + 2, FAR, -FAR):
                    self.refused(offices, send(office, centre))
            for centre in (-1, 0, last, offices + 2, FAR, -FAR):
                self.check((begin(offices), [0]), (take(0, 1, 1, 0, 0), [0, 1]), (send(0, centre), [-1]))

    def test_ask_is_for_a_centre(self):
        for offices in (1, 2, 4):
            for centre in (offices, offices + 1):
                self.answered(offices, ask(centre))
            for centre in (-1, 0, offices - 1, offices + 2, FAR, -FAR):
                self.refused(offices, ask(centre))


    def test_receipts_are_for_an_office(self):
        for offices in (1, 2, 3, 4):
            for office in range(offices):
                self.answered(offices, receipts(office))
            for office in (-1, offices, offices + 1, offices + 2, FAR, -FAR):
                self.refused(offices, receipts(office))

    def test_owed_is_for_a_centre(self):
        for offices in (1, 2, 3, 4):
            for centre in (offices, offices + 1):
                self.answered(offices, owed(centre))
            for centre in (-1, 0, offices - 1, offices + 2, FAR, -FAR):
                self.refused(offices, owed(centre))

    def test_lacks_is_for_two_nodes(self):
        for offices in (1, 2, 3, 4):
            for node in range(offices + 2):
                for other in range(offices + 2):
                    self.answered(offices, lacks(node, other))
                for other in (-1, offices + 2, FAR, -FAR):
                    self.refused(offices, lacks(node, other))
                    self.refused(offices, lacks(other, node))
            self.refused(offices, lacks(-FAR, FAR))


class WithoutPower(LineCase):
    def test_calls_on_a_node_without_power(self):
        for call in (
            take(0, 1, 1, 0, 0), keep(0), torn(0, 0), torn(0, 1), cut(0), send(0, 1), memory(0), receipts(0),
            lacks(0, 1), lacks(1, 0), lacks(0, 0),
        ):
            self.check((begin(1), [0]), (cut(0), [0]), (call, [-3]))
            self.check((begin(1), [0]), (torn(0, 0), [0]), (call, [-3]))

    def test_calls_on_a_centre_without_power(self):
        for call in (
            keep(2), torn(2, 0), torn(2, 1), cut(2), ask(2), memory(2), owed(2), lacks(2, 0), lacks(1, 2), lacks(2, 2),
        ):
            self.check((begin(1), [0]), (cut(2), [0]), (call, [-3]))

    def test_lacks_of_two_nodes_without_power(self):
        self.check((begin(1), [0]), (cut(0), [0]), (cut(2), [0]), (lacks(0, 2), [-3]), (lacks(2, 0), [-3]),
                   (lacks(1, 1), [0]))

    def test_disk_and_the_calls_that_take_no_node_need_no_power(self):
        line = [begin(1), take(0, 1, 1, 0, 5), keep(0), ask(1), cut(0), cut(1), cut(2)]
        self.check_after(
            line,
            (disk(0), [0, 1, 1, 0, 0, 1, 1, 0, 5]),
            (disk(1), [0, 0, 0, 0, 0]),
            (disk(2), [0, 0, 0, 0, 0]),
            (flight(), [0, 1, 3, 1, 2, 0]),
            (message(1), [0]),
            (acknowledged(), [0]),
            (even(), [0, 0]),
            (state(), [0, 0, 1, 0, 0, 0, 0, 0, 0, 0, 0, 0, 0]),
            (taken(), [0, 1, 1, 0, 5]),
            (settle(), [0, 6]),
        )

    def test_only_the_node_that_is_told_counts(self):
        self.check(
            (begin(2), [0]),
            (cut(0), [0]),
            (cut(2), [0]),
            (take(1, 1, 1, 0, 0), [0, 1]),
            (send(1, 2), [0, 1]),
            (ask(3), [0, 2]),
            (keep(1), [0, 1]),
            (memory(3), [0]),
            (receipts(1), [0]),
            (owed(3), [0]),
            (lacks(1, 3), [0, 1]),
        )


class NotThere(LineCase):
    def test_a_message_that_is_not_under_way(self):
        for call in (deliver, lose, double, message):
            for number in (0, 1, -1, FAR, -FAR):
                self.check((begin(1), [0]), (call(number), [-4]))
            for number in (0, 2, -1, FAR, -FAR):
                self.check((begin(1), [0]), (ask(1), [0, 1]), (call(number), [-4]))
            self.check((begin(1), [0]), (ask(1), [0, 1]), (deliver(1), [0, 1]), (call(1), [-4]))
            self.check((begin(1), [0]), (ask(1), [0, 1]), (lose(1), [0]), (call(1), [-4]))
            self.check((begin(1), [0]), (ask(1), [0, 1]), (cut(2), [0]), (deliver(1), [0, 0]), (call(1), [-4]))

    def test_up_where_power_is(self):
        self.check((begin(1), [0]), (up(0), [-4]), (up(2), [-4]), (cut(0), [0]), (up(0), [0, 0, 0]), (up(0), [-4]))

    def test_send_with_nothing_to_send(self):
        self.check((begin(1), [0]), (send(0, 1), [-4]), (send(0, 2), [-4]))


class TooMany(LineCase):
    def test_ask(self):
        for offices in (1, 3):
            self.check_after(full_line(offices, 39), (ask(offices), [0, 40]), (ask(offices), [-5]))

    def test_send(self):
        self.check_after(
            full_line(1, 39),
            (take(0, 1, 1, 0, 0), [0, 1]),
            (send(0, 1), [0, 40]),
            (send(0, 1), [-5]),
            (lose(7), [0]),
            (send(0, 2), [0, 41]),
            (send(0, 2), [-5]),
        )

    def test_double(self):
        self.check_after(
            full_line(1, 39),
            (double(39), [0, 40]),
            (double(39), [-5]),
            (deliver(1), [0, 1]),
            (double(40), [0, 41]),
            (double(41), [-5]),
        )

    def test_a_message_that_came_or_was_lost_is_under_way_no_more(self):
        self.check_after(
            full_line(1, 40),
            (ask(1), [-5]),
            (lose(40), [0]),
            (ask(1), [0, 41]),
            (ask(1), [-5]),
            (deliver(41), [0, 1]),
            (ask(1), [0, 42]),
            (cut(2), [0]),
            (deliver(42), [0, 0]),
            (ask(1), [0, 43]),
            (ask(1), [-5]),
        )

    def owing(self, offices, more):
        """Give back a line in which the first centre owes each office receipts, and so many are under way."""
        line = [begin(offices)]
        for office in range(offices):
            line += [take(office, 1, 1, 0, office), send(office, offices), deliver(office + 1)]
        return line + [ask(offices)] * more

    def test_keep_that_owes_one_office(self):
        self.check_after(self.owing(1, 39), (keep(1), [0, 1, 41]), (ask(1), [-5]))
        self.check_after(self.owing(1, 40), (keep(1), [-5]), (lose(2), [0]), (keep(1), [0, 1, 42]))

    def test_keep_that_owes_several_offices(self):
        self.check_after(self.owing(4, 36), (keep(4), [0, 1, 41, 42, 43, 44]), (ask(4), [-5]))
        self.check_after(
            self.owing(4, 37),
            (keep(4), [-5]),
            (lose(5), [0]),
            (keep(4), [0, 1, 42, 43, 44, 45]),
            (lose(6), [0]),
            (keep(4), [0, 2]),
        )
        self.check_after(self.owing(2, 39), (keep(2), [-5]))

    def test_several_receipts_for_one_office_are_one_message(self):
        line = [
            begin(1), take(0, 1, 1, 0, 0), take(0, 2, 1, 0, 0), send(0, 1), deliver(1),
            take(0, 3, 1, 0, 0), send(0, 1), deliver(2),
        ]
        self.check_after(line + [ask(1)] * 39, (keep(1), [0, 1, 42]))

    def test_keep_that_owes_nothing(self):
        self.check_after(full_line(1, 40), (keep(0), [0, 1]), (keep(1), [0, 1]), (keep(2), [0, 1]))

    def test_what_is_sent_back_finds_room_with_40_under_way(self):
        line = [begin(1), take(0, 1, 1, 0, 9), send(0, 2), deliver(1)] + [ask(1)] * 40
        self.check_after(line, (ask(1), [-5]), (deliver(2), [0, 1, 42]), (ask(1), [-5]), (deliver(42), [0, 1]),
                         (memory(1), [0, 1, 1, 0, 9]))

    def test_settle_finds_room_with_40_under_way(self):
        self.check_after(full_line(1, 40), (settle(), [0, 2]), (ask(1), [0, 43]))

    def test_calls_that_send_nothing_go_on_with_40_under_way(self):
        told = [number for sent in range(1, 41) for number in (sent, 3, 1, 2, 0)]
        self.check_after(
            full_line(1, 40),
            (disk(0), [0, 0, 0, 0, 0]),
            (receipts(0), [0]),
            (flight(), [0] + told),
            (message(40), [0]),
            (acknowledged(), [0]),
            (lacks(0, 1), [0]),
            (even(), [0, 1]),
            (state(), [0, 1, 0, 0, 0, 1, 0, 0, 0, 1, 0, 0, 0]),
            (owed(2), [0]),
            (taken(), [0]),
            (take(0, 1, 1, 0, 0), [0, 1]),
            (memory(0), [0, 1, 1, 0, 0]),
            (torn(0, 0), [0]),
            (up(0), [0, 0, 0]),
            (cut(0), [0]),
            (lose(40), [0]),
        )


class SeveralAtOnce(LineCase):
    """The refusal nearest to 0 is answered."""

    def test_a_range_ahead_of_power(self):
        self.check(
            (begin(1), [0]),
            (cut(0), [0]),
            (take(0, 0, 1, 0, 0), [-1]),
            (take(0, 1, 0, 0, 0), [-1]),
            (take(0, 1, 1, 2, 0), [-1]),
            (take(0, 1, 1, 0, 1000), [-1]),
            (torn(0, 2), [-1]),
            (send(0, 0), [-1]),
            (send(0, 3), [-1]),
            (lacks(0, 3), [-1]),
            (lacks(-1, 0), [-1]),
            (lacks(0, 1), [-3]),
        )
        self.check(
            (begin(1), [0]),
            (cut(0), [0]),
            (cut(1), [0]),
            (cut(2), [0]),
            (receipts(1), [-1]),
            (receipts(2), [-1]),
            (receipts(0), [-3]),
            (owed(0), [-1]),
            (owed(3), [-1]),
            (owed(1), [-3]),
            (owed(2), [-3]),
            (disk(3), [-1]),
            (memory(3), [-1]),
        )

    def test_a_range_ahead_of_nothing_to_send_and_of_40_under_way(self):
        self.check_after(
            full_line(1, 40),
            (send(0, 3), [-1]),
            (send(1, 1), [-1]),
            (ask(0), [-1]),
            (keep(3), [-1]),
        )

    def test_power_ahead_of_nothing_to_send_and_of_40_under_way(self):
        self.check_after(
            full_line(1, 40),
            (cut(0), [0]),
            (send(0, 1), [-3]),
            (cut(1), [0]),
            (ask(1), [-3]),
            (keep(1), [-3]),
        )

    def test_power_ahead_of_nothing_to_send(self):
        self.check((begin(1), [0]), (cut(0), [0]), (send(0, 1), [-3]))

    def test_nothing_to_send_ahead_of_40_under_way(self):
        self.check_after(full_line(1, 40), (send(0, 1), [-4]))

    def test_no_such_message_ahead_of_40_under_way(self):
        self.check_after(full_line(1, 40), (double(41), [-4]), (double(0), [-4]), (double(40), [-5]))

    def test_up_out_of_range_where_no_power_is(self):
        self.check((begin(1), [0]), (cut(0), [0]), (up(3), [-1]), (up(-1), [-1]), (up(1), [-4]))


class RefusedChangesNothing(LineCase):
    def test_take(self):
        self.check(
            (begin(1), [0]),
            (take(0, 1, 5, 0, 5), [0, 1]),
            (take(0, 1, 1001, 0, 5), [-1]),
            (take(0, 1, 6, 0, 1000), [-1]),
            (take(0, 1, 6, 2, 1), [-1]),
            (memory(0), [0, 1, 5, 0, 5]),
        )

    def test_a_keep_with_too_many_under_way_writes_nothing_and_sends_nothing(self):
        line = [begin(2)]
        for office in (0, 1):
            line += [take(office, office + 1, 1, 0, 3), send(office, 2), deliver(office + 1)]
        line += [ask(2)] * 39
        self.check_after(
            line,
            (keep(2), [-5]),
            (ask(2), [0, 42]),
            (lose(42), [0]),
            (lose(3), [0]),
            (keep(2), [0, 1, 43, 44]),
            (deliver(43), [0, 1]),
            (send(0, 2), [-4]),
            (deliver(44), [0, 1]),
            (send(1, 2), [-4]),
        )
        self.check_after(line, (keep(2), [-5]), (cut(2), [0]), (up(2), [0, 0, 0]))

    def test_a_torn_that_is_refused_leaves_power_and_slots(self):
        told = [0, 1, 1, 2, 1, 1, 5, 0, 5]
        self.check(
            (begin(1), [0]),
            (take(0, 1, 5, 0, 5), [0, 1]),
            (keep(0), [0, 1]),
            (keep(0), [0, 2]),
            (torn(0, 2), [-1]),
            (torn(0, -1), [-1]),
            (memory(0), [0, 1, 5, 0, 5]),
            (disk(0), told),
            (cut(0), [0]),
            (torn(0, 1), [-3]),
            (torn(0, 0), [-3]),
            (disk(0), told),
            (up(0), [0, 2, 1]),
        )

    def test_an_up_where_power_is_leaves_the_memory(self):
        self.check(
            (begin(1), [0]),
            (take(0, 1, 5, 0, 5), [0, 1]),
            (up(0), [-4]),
            (memory(0), [0, 1, 5, 0, 5]),
        )

    def test_an_up_where_power_is_leaves_what_is_owed(self):
        self.check(
            (begin(1), [0]),
            (take(0, 1, 5, 0, 5), [0, 1]),
            (send(0, 1), [0, 1]),
            (deliver(1), [0, 1]),
            (up(1), [-4]),
            (keep(1), [0, 1, 2]),
        )

    def test_refused_sends_asks_and_doubles_use_no_number(self):
        self.check(
            (begin(1), [0]),
            (send(0, 1), [-4]),
            (send(0, 0), [-1]),
            (ask(0), [-1]),
            (double(1), [-4]),
            (ask(1), [0, 1]),
        )
        self.check_after(full_line(1, 40), (ask(1), [-5]), (double(3), [-5]), (lose(1), [0]), (ask(1), [0, 41]))


if __name__ == "__main__":
    unittest.main()
