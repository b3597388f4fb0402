"""The promises, along drawn lines: behind each call of a line it is looked at how all stands, by further calls.

A look is a line of its own: the calls so far and some more, so the drawn line itself stays as it is.
"""

import unittest

from tests.lines import (
    LineCase, acknowledged, answers_of, ask, begin, both, cut, deliver, disk, drawn_lines, even, flight, items_in, keep,
    lacks, look, memory, message, owed, receipts, send, settle, state, take, taken, told_by, torn, up,
)

BEGIN, TAKE, KEEP, TORN, DELIVER, LOSE, SETTLE = 0, 1, 2, 3, 8, 9, 19
TELLING = tuple(range(11, 19)) + (20, 21, 22)


def books_in_memory(line, nodes):
    """Give back each node's book in memory, None without power."""
    return [items_in(answer) if answer[0] == 0 else None for answer in look(line, [memory(node) for node in nodes])]


def books_after_a_cut(line, nodes):
    """Give back each node's book as it is in memory after a cut, and the sequences that up tells."""
    calls = []
    for node in nodes:
        calls += [cut(node), up(node), memory(node)]
    found = look(line, calls)
    return [items_in(answer) for answer in found[2::3]], [answer[1] for answer in found[1::3]]


def disks(line, nodes):
    """Give back each node's two slots, each its sequence and how many items, and the books that are read."""
    found = look(line, [disk(node) for node in nodes])
    return [[tuple(answer[1:3]), tuple(answer[3:5])] for answer in found], [told_by(answer, 4, 5) for answer in found]


def other_slot(slots):
    """Give back the number of the slot that isn't read."""
    return 1 if slots[0][0] > slots[1][0] else 0


def snapshot(line, nodes):
    """Give back all that the telling calls tell behind the line."""
    calls = [state(), flight(), acknowledged(), taken(), even()]
    for node in nodes:
        calls += [memory(node), disk(node), receipts(node), owed(node)]
        calls += [lacks(node, other) for other in nodes]
    sent = [numbers[0] for numbers in told_by(look(line, [flight()])[0], 5)]
    return look(line, calls) + look(line, [message(number) for number in sent])


def numbers_sent(call, answer):
    """Give back the numbers of the messages that the answered call sent and that are under way behind it."""
    if answer[0] != 0:
        return []
    if call[0] in (KEEP, DELIVER):
        return answer[2:]
    return answer[1:] if call[0] in (6, 7, 10) else []


def pairs_in(answer):
    """Give back the pairs that acknowledged's or owed's answer tells: a node's number and an item."""
    return [(numbers[0], numbers[1:]) for numbers in told_by(answer, 5)]


def each_step():
    """Give back for each call of each drawn line: the nodes, the centres, the line to there, its last answer."""
    for offices, line in drawn_lines():
        found = answers_of(line)
        for count in range(1, len(line) + 1):
            nodes = list(range(offices + 2))
            yield nodes, nodes[-2:], line[:count], found[count - 1]


class TheLines(unittest.TestCase):
    def test_the_lines_do_enough(self):
        answered = {}
        for nodes, centres, line, answer in each_step():
            key = (line[-1][0], answer[0], len(answer) > 2)
            answered[key] = answered.get(key, 0) + 1
        for key in [(number, 0, False) for number in (0, 1, 3, 4, 6, 7, 8, 9, 10, 19)]:
            self.assertGreater(answered.get(key, 0), 5, key)
        for key in [(2, 0, True), (2, 0, False), (5, 0, True), (8, 0, True), (1, -3, False)]:
            self.assertGreater(answered.get(key, 0), 5, key)
        for number in TELLING:
            self.assertGreater(answered.get((number, 0, True), 0) + answered.get((number, 0, False), 0), 2, number)


class WhatIsRead(unittest.TestCase):
    """Promise 1: the book that's read never gets less."""

    def test_it_never_gets_less(self):
        earlier, earlier_sequences = [], []
        for nodes, centres, line, answer in each_step():
            slots, found = disks(line, nodes)
            sequences = [max(slot[0] for slot in both_slots) for both_slots in slots]
            if len(line) > 1:
                for book, was in zip(found, earlier):
                    self.assertEqual(both(book, was), book, line)
                for sequence, was in zip(sequences, earlier_sequences):
                    self.assertGreaterEqual(sequence, was, line)
            earlier, earlier_sequences = found, sequences

    def test_disk_tells_what_a_cut_brings_back(self):
        for nodes, centres, line, answer in each_step():
            slots, found = disks(line, nodes)
            sequences = [max(slot[0] for slot in both_slots) for both_slots in slots]
            self.assertEqual((found, sequences), books_after_a_cut(line, nodes), line)

    def test_what_is_kept_is_read(self):
        for nodes, centres, line, answer in each_step():
            call = line[-1]
            if call[0] == KEEP and answer[0] == 0:
                self.assertEqual(disks(line, nodes)[1][call[1]], books_in_memory(line[:-1], nodes)[call[1]], line)

    def test_which_slots_are_written_and_which_are_spoiled(self):
        for nodes, centres, line, answer in each_step():
            call = line[-1]
            if len(line) == 1 or call[0] == SETTLE:
                continue
            expected = disks(line[:-1], nodes)[0]
            if call[0] == KEEP and answer[0] == 0:
                count = len(books_in_memory(line[:-1], nodes)[call[1]])
                expected[call[1]][other_slot(expected[call[1]])] = (answer[1], count)
            if call[0] == TORN and answer[0] == 0 and call[2] == 1:
                expected[call[1]][other_slot(expected[call[1]])] = (0, 0)
            self.assertEqual(disks(line, nodes)[0], expected, line)

    def test_a_torn_writing_spoils_the_other_slot_and_no_other(self):
        for nodes, centres, line, answer in each_step():
            slots, found = disks(line, nodes)
            powered = [node for node, book in zip(nodes, books_in_memory(line, nodes)) if book is not None]
            for node in powered[len(line) % 2::2]:
                expected = [list(both_slots) for both_slots in slots]
                self.assertEqual(disks(line + [torn(node, 0)], nodes), (expected, found), line)
                expected[node][other_slot(expected[node])] = (0, 0)
                self.assertEqual(disks(line + [torn(node, 1)], nodes), (expected, found), line)

    def test_what_settling_writes(self):
        for nodes, centres, line, answer in each_step():
            before = disks(line, nodes)[0]
            slots, found = disks(line + [settle()], nodes)
            self.assertEqual(found, books_in_memory(line + [settle()], nodes), line)
            for node in nodes:
                sequence = max(slot[0] for slot in before[node])
                more = 2 if node in centres else 1
                written = {slot[0] for slot in slots[node]}
                self.assertEqual(max(written), sequence + more, line)
                if node in centres:
                    self.assertIn(sequence + 1, written, line)
                else:
                    self.assertEqual(slots[node][1 - other_slot(before[node])],
                                     before[node][1 - other_slot(before[node])], line)


class WhatWasAcknowledged(unittest.TestCase):
    """Promise 2: what was acknowledged is kept by that centre, or something greater of the form."""

    def test_the_centre_has_kept_it(self):
        seen = 0
        for nodes, centres, line, answer in each_step():
            found = disks(line, nodes)[1]
            for centre, item in pairs_in(look(line, [acknowledged()])[0]):
                self.assertIn(centre, centres)
                self.assertEqual(both(found[centre], [item]), found[centre], line)
                seen += 1
        self.assertGreater(seen, 1000)

    def test_what_an_office_does_not_send_any_more_the_centre_has_kept(self):
        for nodes, centres, line, answer in each_step():
            held = books_in_memory(line, nodes)
            for office in nodes[:-2]:
                for centre in centres:
                    if held[office] is not None:
                        self.see_all_items(line, held[office], office, centre)

    def see_all_items(self, line, held, office, centre):
        """See that what the centre reads, and what the office would send, are no less than what the office holds."""
        restart = [cut(centre), up(centre)]
        sent = look(line, [send(office, centre)])[0]
        come = [send(office, centre), deliver(sent[1])] if sent[0] == 0 else []
        found = items_in(look(line, restart + come + [memory(centre)])[-1])
        self.assertEqual(both(found, held), found, (line, office, centre))

    def test_it_comes_about_by_receipts_that_come(self):
        for nodes, centres, line, answer in each_step():
            call = line[-1]
            if len(line) == 1 or call[0] == SETTLE:
                continue
            expected = pairs_in(look(line[:-1], [acknowledged()])[0])
            if call[0] == DELIVER and answer == [0, 1]:
                sent = {numbers[0]: numbers for numbers in told_by(look(line[:-1], [flight()])[0], 5)}[call[1]]
                if sent[1] == 2:
                    for item in items_in(look(line[:-1], [message(call[1])])[0]):
                        if (sent[2], item) not in expected:
                            expected.append((sent[2], item))
            self.assertEqual(pairs_in(look(line, [acknowledged()])[0]), expected, line)

    def test_an_office_has_receipts_for_what_was_acknowledged_and_stands(self):
        for nodes, centres, line, answer in each_step():
            known = set(pairs_in(look(line, [acknowledged()])[0]))
            for office, book in zip(nodes[:-2], books_in_memory(line, nodes)):
                if book is not None:
                    standing = {item[0]: item for item in book}
                    for form, centre in told_by(look(line, [receipts(office)])[0], 2):
                        self.assertIn((centre, standing[form]), known, line)

    def test_how_an_office_comes_to_its_receipts_and_loses_them(self):
        came = dropped = 0
        for nodes, centres, line, answer in each_step():
            call = line[-1]
            if len(line) == 1 or call[0] in (4, 5, SETTLE, TORN):
                continue
            held = books_in_memory(line, nodes)
            earlier = books_in_memory(line[:-1], nodes)
            for office in nodes[:-2]:
                if held[office] is None:
                    continue
                had = told_by(look(line[:-1], [receipts(office)])[0], 2)
                expected = {(form, centre) for form, centre in had
                            if self.item_of(form, held[office]) == self.item_of(form, earlier[office])}
                dropped += len(had) - len(expected)
                if call[0] == DELIVER and answer == [0, 1]:
                    for form, centre in self.brought(line, office, held[office]):
                        came += (form, centre) not in expected
                        expected.add((form, centre))
                self.assertEqual(told_by(look(line, [receipts(office)])[0], 2), sorted(expected), line)
        self.assertGreater(came, 20)
        self.assertGreater(dropped, 5)

    def item_of(self, form, book):
        return [item for item in book if item[0] == form]

    def brought(self, line, office, book):
        """Give back the form and the centre of each receipt that the message that comes last brings the office."""
        number = line[-1][1]
        sent = {numbers[0]: numbers for numbers in told_by(look(line[:-1], [flight()])[0], 5)}[number]
        if sent[1] != 2 or sent[3] != office:
            return []
        return [(item[0], sent[2]) for item in items_in(look(line[:-1], [message(number)])[0]) if item in book]


class WhatWasTakenIn(unittest.TestCase):
    """Promise 3: nothing is anywhere that wasn't taken in."""

    def test_taken_tells_what_was_taken_in(self):
        for nodes, centres, line, answer in each_step():
            if len(line) == 1:
                expected = []
            call = line[-1]
            if call[0] == TAKE and answer[0] == 0:
                item = (call[2], call[3], call[4], 0 if call[4] else call[5])
                if item not in expected:
                    expected.append(item)
            self.assertEqual(items_in(look(line, [taken()])[0]), expected, line)

    def test_nothing_else_is_anywhere(self):
        for nodes, centres, line, answer in each_step():
            known = set(items_in(look(line, [taken()])[0]))
            for book in books_in_memory(line, nodes) + disks(line, nodes)[1]:
                self.assertLessEqual(set(book or []), known, line)
            sent = [numbers[0] for numbers in told_by(look(line, [flight()])[0], 5)]
            for told in look(line, [message(number) for number in sent]):
                self.assertLessEqual(set(items_in(told)), known, line)
            for told in look(line, [acknowledged()] + [owed(centre) for centre in centres]):
                if told[0] == 0:
                    self.assertLessEqual({item for place, item in pairs_in(told)}, known, line)


class WhenAllIsSettled(unittest.TestCase):
    """Promise 4: both centres have the greatest that any node had, and all is even."""

    def test_both_centres_have_the_greatest_of_all(self):
        for nodes, centres, line, answer in each_step():
            found = disks(line, nodes)[1]
            held = [read if book is None else book for book, read in zip(books_in_memory(line, nodes), found)]
            greatest = []
            for book in held:
                greatest = both(greatest, book)
            after = books_in_memory(line + [settle()], nodes)
            self.assertEqual(after[-2:], [greatest, greatest], line)
            self.assertEqual(after[:-2], held[:-2], line)

    def test_all_is_even_and_nothing_is_open(self):
        for nodes, centres, line, answer in each_step():
            found = look(line, [settle(), even(), flight(), state()] + [owed(centre) for centre in centres])
            self.assertEqual(found[1:3] + found[4:], [[0, 1], [0], [0], [0]], line)
            self.assertEqual({numbers[0] for numbers in told_by(found[3], 4)}, {1}, line)

    def test_offices_have_receipts_from_both_for_all_they_have(self):
        for nodes, centres, line, answer in each_step():
            for office, book in zip(nodes[:-2], books_in_memory(line + [settle()], nodes)):
                expected = [(item[0], centre) for item in book for centre in centres]
                self.assertEqual(told_by(look(line, [settle(), receipts(office)])[1], 2), expected, line)

    def test_settled_again_two_summaries_are_sent(self):
        for nodes, centres, line, answer in each_step():
            again = look(line, [settle(), settle()] + [memory(centre) for centre in centres])
            self.assertEqual(again[1], [0, 2], line)
            self.assertEqual(again[2:], look(line, [settle()] + [memory(centre) for centre in centres])[1:], line)

    def test_how_many_messages_were_sent(self):
        for nodes, centres, line, answer in each_step():
            powered = [up(node) for node in nodes]
            lost = [[LOSE, numbers[0]] for numbers in told_by(look(line, [flight()])[0], 5)]
            ahead = line + powered + lost
            number = look(ahead, [ask(centres[0])])[0][1]
            after = look(line, [settle(), ask(centres[0])])
            self.assertEqual(after[0][1], after[1][1] - number, line)

    def test_it_is_as_if_all_were_called_one_by_one(self):
        for nodes, centres, line, answer in each_step():
            if len(line) % 5 == 0:
                by_hand = self.settled_by_hand(line, nodes, centres)
                self.assertEqual(snapshot(by_hand, nodes), snapshot(line + [settle()], nodes), line)

    def settled_by_hand(self, line, nodes, centres):
        """Give back the line and behind it, call by call, what settling does."""
        dark = [node for node, book in zip(nodes, books_in_memory(line, nodes)) if book is None]
        line = line + [up(node) for node in dark]
        line = line + [[LOSE, numbers[0]] for numbers in told_by(look(line, [flight()])[0], 5)]
        for office in nodes[:-2]:
            for centre in centres:
                sent = look(line, [send(office, centre)])[0]
                if sent[0] == 0:
                    line = line + [send(office, centre), deliver(sent[1])]
        for centre in centres:
            sent = look(line, [keep(centre)])[0][2:]
            line = line + [keep(centre)] + [deliver(number) for number in sent]
        for centre in centres:
            number = look(line, [ask(centre)])[0][1]
            back = look(line, [ask(centre), deliver(number)])[1][2:]
            line = line + [ask(centre), deliver(number)] + [deliver(sent) for sent in back]
        return line + [keep(node) for node in nodes]


class SummariesAndFillings(unittest.TestCase):
    """Promise 5: a summary and what's sent back bring the one who asks to what both have together."""

    def test_they_bring_what_both_have(self):
        seen = 0
        for nodes, centres, line, answer in each_step():
            held = books_in_memory(line, nodes)
            full = len(look(line, [flight()])[0]) > 200
            if held[centres[0]] is None or held[centres[1]] is None or full:
                continue
            for asking, other in (centres, centres[::-1]):
                number = look(line, [ask(asking)])[0][1]
                come = [ask(asking), deliver(number)]
                back = look(line, come)[1][2:]
                news = [item[0] for item in both(held[asking], held[other]) if item not in held[asking]]
                self.assertEqual(look(line, [lacks(other, asking)])[0], [0] + news, line)
                for sent in back:
                    told = look(line, come + [message(sent)])[-1]
                    self.assertEqual(items_in(told), [item for item in held[other] if item[0] in news], line)
                after = books_in_memory(line + come + [deliver(sent) for sent in back], nodes)
                self.assertEqual(after[asking], both(held[asking], held[other]), line)
                self.assertEqual(after[other], held[other], line)
                self.assertEqual(len(back), 1 if news else 0, line)
                self.assertEqual(look(line + come + [deliver(sent) for sent in back], [lacks(other, asking)])[0], [0])
                seen += len(back)
        self.assertGreater(seen, 20)


class NothingIsChanged(unittest.TestCase):
    """Promise 6: a refused call, and one that only answers, changes nothing."""

    def test_lines_without_them_have_the_same_answers(self):
        for offices, line in drawn_lines():
            pairs = list(zip(line, answers_of(line)))
            left = [(call, answer) for call, answer in pairs if answer[0] == 0 and call[0] not in TELLING]
            self.assertLess(len(left), len(pairs))
            self.assertEqual(answers_of([call for call, answer in left]), [answer for call, answer in left])

    def test_such_a_call_would_be_answered_likewise_again(self):
        for nodes, centres, line, answer in each_step():
            if answer[0] < 0 or line[-1][0] in TELLING:
                self.assertEqual(look(line, [line[-1]] * 2), [answer, answer], line)

    def test_all_stands_as_it_was_behind_such_a_call(self):
        seen = 0
        for nodes, centres, line, answer in each_step():
            if answer[0] < 0 or line[-1][0] in TELLING:
                self.assertEqual(snapshot(line, nodes), snapshot(line[:-1], nodes), line)
                seen += 1
        self.assertGreater(seen, 200)

    def test_each_telling_call_may_stand_ahead_of_each_call(self):
        for offices, line in drawn_lines():
            expected = answers_of(line)
            for call in (
                memory(offices), disk(0), receipts(0), flight(), message(3), acknowledged(), lacks(0, offices),
                lacks(offices, offices + 1), even(), state(), owed(offices), owed(offices + 1), taken(),
            ):
                told = answers_of([part for pair in zip(line, [call] * len(line)) for part in pair])
                self.assertEqual(told[::2], expected, call)


class WhatIsTold(unittest.TestCase):
    """What the telling calls tell fits together, and fits what was answered when it happened."""

    def test_flight_tells_what_was_sent_and_neither_came_nor_was_lost(self):
        for nodes, centres, line, answer in each_step():
            if len(line) == 1:
                sent = {}
            call = line[-1]
            if call[0] in (DELIVER, LOSE) and answer[0] == 0:
                gone = sent.pop(call[1])
            if call[0] == SETTLE:
                sent = {}
            for number in numbers_sent(call, answer):
                if call[0] == KEEP:
                    sent[number] = (2, call[1])
                elif call[0] == DELIVER:
                    sent[number] = (4, gone[2], gone[1])
                elif call[0] == 6:
                    sent[number] = (1, call[1], call[2])
                elif call[0] == 7:
                    sent[number] = (3, call[1], sum(centres) - call[1])
                else:
                    sent[number] = sent[call[1]]
            told = told_by(look(line, [flight()])[0], 5)
            self.assertEqual([numbers[0] for numbers in told], sorted(sent), line)
            for number, kind, sender, receiver, count in told:
                self.assertEqual((kind, sender, receiver)[:len(sent[number])], sent[number], line)
                self.assertEqual(len(items_in(look(line, [message(number)])[0])), count, line)

    def test_state_fits_the_others(self):
        for nodes, centres, line, answer in each_step():
            expected = []
            slots = disks(line, nodes)[0]
            for node, book in zip(nodes, books_in_memory(line, nodes)):
                count = 0
                if book is not None and node in centres:
                    count = len(pairs_in(look(line, [owed(node)])[0]))
                sequence = max(slot[0] for slot in slots[node])
                expected.append((0 if book is None else 1, sequence, len(book or []), count))
            self.assertEqual(told_by(look(line, [state()])[0], 4), expected, line)

    def test_lacks_and_even_fit_the_memories(self):
        evens = 0
        for nodes, centres, line, answer in each_step():
            held = books_in_memory(line, nodes)
            news = {}
            pairs = [(node, other) for node in nodes for other in nodes]
            for (node, other), told in zip(pairs, look(line, [lacks(node, other) for node, other in pairs])):
                if held[node] is None or held[other] is None:
                    self.assertEqual(told, [-3], line)
                    continue
                more = both(held[node], held[other])
                news[(node, other)] = [item[0] for item in more if item not in held[other]]
                self.assertEqual(told, [0] + news[(node, other)], line)
            expected = held[centres[0]] is not None and held[centres[0]] == held[centres[1]]
            for office in nodes[:-2]:
                expected = expected and not news.get((office, centres[0]))
            self.assertEqual(look(line, [even()])[0], [0, 1 if expected else 0], line)
            evens += expected
        self.assertGreater(evens, 20)

    def test_what_is_owed_is_what_the_receipts_bring(self):
        seen = 0
        for nodes, centres, line, answer in each_step():
            for centre in centres:
                told = look(line, [owed(centre)])[0]
                kept = look(line, [keep(centre)])[0]
                if told[0] < 0 or kept[0] < 0:
                    continue
                brought = look(line + [keep(centre)], [message(number) for number in kept[2:]])
                self.assertEqual(len(told), 1 + 5 * sum(len(items_in(part)) for part in brought), line)
                offices = sorted({place for place, item in pairs_in(told)})
                self.assertEqual(len(offices), len(brought), line)
                for office, part in zip(offices, brought):
                    expected = [item for place, item in pairs_in(told) if place == office]
                    self.assertEqual(items_in(part), expected, line)
                    seen += len(expected)
        self.assertGreater(seen, 100)


class Acknowledged(LineCase):
    """Promise 2, by hand: a receipt is sent only by a keep, and for what that keep has written."""

    def test_no_receipt_is_sent_before_it_is_kept(self):
        self.check(
            (begin(1), [0]),
            (take(0, 1, 1, 0, 5), [0, 1]),
            (send(0, 1), [0, 1]),
            (deliver(1), [0, 1]),
            (ask(1), [0, 2]),
            (keep(1), [0, 1, 3]),
            (cut(1), [0]),
            (deliver(3), [0, 1]),
            (send(0, 1), [-4]),
            (up(1), [0, 1, 1]),
            (memory(1), [0, 1, 1, 0, 5]),
        )

    def test_what_was_owed_before_a_torn_writing_is_not_acknowledged_after_it(self):
        for begun in (0, 1):
            self.check(
                (begin(1), [0]),
                (take(0, 1, 1, 0, 5), [0, 1]),
                (send(0, 1), [0, 1]),
                (deliver(1), [0, 1]),
                (torn(1, begun), [0]),
                (up(1), [0, 0, 0]),
                (keep(1), [0, 1]),
                (send(0, 1), [0, 2]),
                (deliver(2), [0, 1]),
                (keep(1), [0, 2, 3]),
                (deliver(3), [0, 1]),
                (send(0, 1), [-4]),
                (torn(1, begun), [0]),
                (up(1), [0, 2, 1]),
            )

    def test_something_greater_of_the_form_is_kept(self):
        self.check(
            (begin(2), [0]),
            (take(0, 1, 2, 0, 5), [0, 1]),
            (take(1, 1, 1, 0, 5), [0, 1]),
            (send(0, 2), [0, 1]),
            (send(1, 2), [0, 2]),
            (deliver(1), [0, 1]),
            (deliver(2), [0, 1]),
            (keep(2), [0, 1, 3, 4]),
            (deliver(4), [0, 1]),
            (send(1, 2), [-4]),
            (torn(2, 1), [0]),
            (up(2), [0, 1, 1]),
            (memory(2), [0, 1, 2, 0, 5]),
        )


class Filled(LineCase):
    """Promise 5, by hand, with books that are empty, the same, and partly greater on both sides."""

    def see(self, first, second):
        """See that the first centre, which has the first items, gets both's; and the second likewise."""
        line = [begin(2)] + [take(0, *item) for item in first] + [take(1, *item) for item in second]
        sent = 0
        for office, held in ((0, first), (1, second)):
            if held:
                sent += 1
                line += [send(office, 2 + office), deliver(sent)]
        for asking in (2, 3):
            come = line + [ask(asking), deliver(sent + 1)]
            back = answers_of(come)[-1][2:]
            after = answers_of(come + [deliver(number) for number in back] + [memory(asking)])[-1]
            self.assertEqual(items_in(after), both(first, second))

    def test_books_of_both(self):
        empty = []
        few = [(1, 1, 0, 5), (2, 3, 1, 0)]
        others = [(1, 1, 0, 6), (2, 3, 0, 9), (3, 1, 0, 0)]
        whole = [(form, form * 7 % 5 + 1, 0, form) for form in range(1, 21)]
        for first in (empty, few, others, whole):
            for second in (empty, few, others, whole):
                self.see(first, second)


if __name__ == "__main__":
    unittest.main()
