"""The promises, along drawn lines: behind each call of a line the books are looked at by further calls.

A look is a line of its own: the calls so far and some more, so the drawn line itself stays as it is. The lines
are drawn with written seeds, the same ones each time.
"""

import random
import unittest

from tests.lines import (
    LineCase, answers_of, ask, begin, both, cut, deliver, double, items_in, keep, lose, memory, send, take, torn, up,
)

LENGTH = 90
SEEDS = range(16)


def draw_call(draw, offices, under_way):
    """Draw a call; small numbers, so that items meet, and now and then one that's refused."""
    office = draw.randrange(offices)
    centre = offices + draw.randrange(2)
    node = draw.choice([office, centre])
    message = draw.choice(under_way) if under_way and draw.random() < 0.95 else draw.randrange(9)
    name = draw.choice(
        ["take"] * 4 + ["send"] * 4 + ["keep"] * 3 + ["ask"] * 2 + ["deliver"] * 9 + ["up"] * 4
        + ["cut", "torn", "lose", "double", "memory", "wrong"]
    )
    return {
        "take": take(office, draw.randint(1, 3), draw.randint(1, 3), draw.randrange(2), draw.randrange(3)),
        "send": send(office, centre),
        "keep": keep(node),
        "ask": ask(centre),
        "deliver": deliver(message),
        "up": up(node),
        "cut": cut(node),
        "torn": torn(node, draw.randrange(2)),
        "lose": lose(message),
        "double": double(message),
        "memory": memory(node),
        "wrong": draw.choice([
            take(office, 21, 1, 0, 0), keep(offices + 2), torn(node, 2), send(centre, office), ask(office), begin(7),
            up(-1), cut(offices + 2), memory(-1), take(office, 1, 1001, 0, 0), deliver(10 ** 18), lose(0), double(-3),
        ]),
    }[name]


def numbers_sent(call, answer):
    """Give back the numbers of the messages that the answered call sent."""
    if answer[0] != 0:
        return []
    if call[0] in (2, 8):
        return answer[2:]
    return answer[1:] if call[0] in (6, 7, 10) else []


def draw_line(seed):
    """Give back how many offices there are, and a drawn line."""
    draw = random.Random(seed)
    offices = 1 + seed % 3
    line = [begin(offices)]
    under_way = []
    while len(line) < LENGTH:
        call = draw_call(draw, offices, under_way)
        line.append(call)
        answer = answers_of(line)[-1]
        if call[0] in (8, 9) and answer[0] == 0:
            under_way.remove(call[1])
        under_way += numbers_sent(call, answer)
    return offices, line


def look(line, calls):
    """Give back what's answered for the calls behind the line."""
    return answers_of(line + calls)[len(line):]


def books_read(line, nodes):
    """Give back each node's book as it is read from the slots, and the sequences."""
    calls = []
    for node in nodes:
        calls += [cut(node), up(node), memory(node)]
    found = look(line, calls)
    return [items_in(answer) for answer in found[2::3]], [answer[1] for answer in found[1::3]]


def books_in_memory(line, nodes):
    """Give back each node's book in memory, None without power."""
    return [items_in(answer) if answer[0] == 0 else None for answer in look(line, [memory(node) for node in nodes])]


class Promises(unittest.TestCase):
    def each_step(self):
        """Give back for each call of each drawn line: the nodes, the centres, the line to there, its last answer."""
        for seed in SEEDS:
            offices, line = draw_line(seed)
            found = answers_of(line)
            for count in range(1, len(line) + 1):
                nodes = list(range(offices + 2))
                yield nodes, nodes[-2:], line[:count], found[count - 1]

    def test_the_lines_do_enough(self):
        answered = {}
        for nodes, centres, line, answer in self.each_step():
            key = (line[-1][0], answer[0], len(answer) > 2)
            answered[key] = answered.get(key, 0) + 1
        for key in [(number, 0, False) for number in (0, 1, 3, 4, 6, 7, 8, 9, 10)]:
            self.assertGreater(answered.get(key, 0), 5, key)
        for key in [(2, 0, True), (2, 0, False), (5, 0, True), (8, 0, True), (11, 0, True), (1, -3, False)]:
            self.assertGreater(answered.get(key, 0), 5, key)

    def test_1_what_is_read_never_gets_less(self):
        earlier, earlier_sequences = [], []
        for nodes, centres, line, answer in self.each_step():
            found, sequences = books_read(line, nodes)
            if len(line) > 1:
                for book, was in zip(found, earlier):
                    self.assertEqual(both(book, was), book, line)
                for sequence, was in zip(sequences, earlier_sequences):
                    self.assertGreaterEqual(sequence, was, line)
            earlier, earlier_sequences = found, sequences

    def test_1_what_is_kept_is_read(self):
        for nodes, centres, line, answer in self.each_step():
            call = line[-1]
            if call[0] == 2 and answer[0] == 0:
                found, sequences = books_read(line, nodes)
                self.assertEqual(found[call[1]], books_in_memory(line[:-1], nodes)[call[1]], line)
                self.assertEqual(sequences[call[1]], answer[1], line)

    def test_2_what_an_office_does_not_send_any_more_the_centre_has_kept(self):
        for nodes, centres, line, answer in self.each_step():
            held = books_in_memory(line, nodes)
            for office in nodes[:-2]:
                for centre in centres:
                    if held[office] is not None:
                        self.see_all_items(line, held[office], office, centre)

    def see_all_items(self, line, held, office, centre):
        """See that what the centre reads, and what the office would send, are no less than what the office holds."""
        restart = [cut(centre), up(centre)]
        sent = look(line, [send(office, centre)])[0]
        come = [send(office, centre), deliver(sent[1])] if sent[0] == 0 else []
        found = items_in(look(line, restart + come + [memory(centre)])[-1])
        self.assertEqual(both(found, held), found, (line, office, centre))

    def test_3_nothing_is_anywhere_that_was_not_taken_in(self):
        taken = set()
        for nodes, centres, line, answer in self.each_step():
            call = line[-1]
            if call[0] == 0 and answer == [0]:
                taken = set()
            if call[0] == 1 and answer[0] == 0:
                taken.add((call[2], call[3], call[4], 0 if call[4] else call[5]))
            for book in books_in_memory(line, nodes) + books_read(line, nodes)[0]:
                self.assertLessEqual(set(book or []), taken, line)

    def test_5_a_summary_and_a_filling_bring_what_both_have(self):
        seen = 0
        for nodes, centres, line, answer in self.each_step():
            held = books_in_memory(line, nodes)
            if held[centres[0]] is None or held[centres[1]] is None:
                continue
            for asking, other in (centres, centres[::-1]):
                number = look(line, [ask(asking)])[0][1]
                come = [ask(asking), deliver(number)]
                back = look(line, come)[1][2:]
                after = books_in_memory(line + come + [deliver(sent) for sent in back], nodes)
                self.assertEqual(after[asking], both(held[asking], held[other]), line)
                self.assertEqual(after[other], held[other], line)
                self.assertEqual(len(back), 0 if after[asking] == held[asking] else 1, line)
                seen += len(back)
        self.assertGreater(seen, 20)

    def test_6_refused_calls_and_memory_change_nothing(self):
        for seed in SEEDS:
            line = draw_line(seed)[1]
            pairs = list(zip(line, answers_of(line)))
            left = [(call, answer) for call, answer in pairs if answer[0] == 0 and call[0] != 11]
            self.assertLess(len(left), len(pairs))
            self.assertEqual(answers_of([call for call, answer in left]), [answer for call, answer in left])

    def test_6_a_call_that_is_refused_would_be_refused_again(self):
        for nodes, centres, line, answer in self.each_step():
            if answer[0] < 0 or line[-1][0] == 11:
                self.assertEqual(look(line, [line[-1]] * 2), [answer, answer], line)


class Acknowledged(LineCase):
    """Promise 2, by hand: a receipt is sent only by a keep, and for what that keep has written."""

    def test_no_receipt_is_sent_before_it_is_kept(self):
        self.check(
            (begin(1), [0]),
            (take(0, 1, 1, 0, 5), [0, 1]),
            (send(0, 1), [0, 1]),
            (deliver(1), [0, 1]),
            (ask(1), [0, 2]),
            (keep(1), [0, 1, 3]),
            (cut(1), [0]),
            (deliver(3), [0, 1]),
            (send(0, 1), [-4]),
            (up(1), [0, 1, 1]),
            (memory(1), [0, 1, 1, 0, 5]),
        )

    def test_what_was_owed_before_a_torn_writing_is_not_acknowledged_after_it(self):
        for begun in (0, 1):
            self.check(
                (begin(1), [0]),
                (take(0, 1, 1, 0, 5), [0, 1]),
                (send(0, 1), [0, 1]),
                (deliver(1), [0, 1]),
                (torn(1, begun), [0]),
                (up(1), [0, 0, 0]),
                (keep(1), [0, 1]),
                (send(0, 1), [0, 2]),
                (deliver(2), [0, 1]),
                (keep(1), [0, 2, 3]),
                (deliver(3), [0, 1]),
                (send(0, 1), [-4]),
                (torn(1, begun), [0]),
                (up(1), [0, 2, 1]),
            )

    def test_something_greater_of_the_form_is_kept(self):
        self.check(
            (begin(2), [0]),
            (take(0, 1, 2, 0, 5), [0, 1]),
            (take(1, 1, 1, 0, 5), [0, 1]),
            (send(0, 2), [0, 1]),
            (send(1, 2), [0, 2]),
            (deliver(1), [0, 1]),
            (deliver(2), [0, 1]),
            (keep(2), [0, 1, 3, 4]),
            (deliver(4), [0, 1]),
            (send(1, 2), [-4]),
            (torn(2, 1), [0]),
            (up(2), [0, 1, 1]),
            (memory(2), [0, 1, 2, 0, 5]),
        )


class Filled(LineCase):
    """Promise 5, by hand, with books that are empty, the same, and partly greater on both sides."""

    def see(self, first, second):
        """See that the first centre, which has the first items, gets both's; and the second likewise."""
        line = [begin(2)] + [take(0, *item) for item in first] + [take(1, *item) for item in second]
        sent = 0
        for office, held in ((0, first), (1, second)):
            if held:
                sent += 1
                line += [send(office, 2 + office), deliver(sent)]
        for asking in (2, 3):
            come = line + [ask(asking), deliver(sent + 1)]
            back = answers_of(come)[-1][2:]
            after = answers_of(come + [deliver(number) for number in back] + [memory(asking)])[-1]
            self.assertEqual(items_in(after), both(first, second))

    def test_books_of_both(self):
        empty = []
        few = [(1, 1, 0, 5), (2, 3, 1, 0)]
        others = [(1, 1, 0, 6), (2, 3, 0, 9), (3, 1, 0, 0)]
        whole = [(form, form * 7 % 5 + 1, 0, form) for form in range(1, 21)]
        for first in (empty, few, others, whole):
            for second in (empty, few, others, whole):
                self.see(first, second)


if __name__ == "__main__":
    unittest.main()
