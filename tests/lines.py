"""What the tests have in common: the calls by name, lines that are asked and checked, and drawn lines."""

import functools
import random
import unittest

from formoffices.offices import answers


def begin(offices):
    return [0, offices]


def take(office, form, version, withdrawn, tells):
    return [1, office, form, version, withdrawn, tells]


def keep(node):
    return [2, node]


def torn(node, begun):
    return [3, node, begun]


def cut(node):
    return [4, node]


def up(node):
    return [5, node]


def send(office, centre):
    return [6, office, centre]


def ask(centre):
    return [7, centre]


def deliver(message):
    return [8, message]


def lose(message):
    return [9, message]


def double(message):
    return [10, message]


def memory(node):
    return [11, node]


def disk(node):
    return [12, node]


def receipts(office):
    return [13, office]


def flight():
    return [14]


def message(number):
    return [15, number]


def acknowledged():
    return [16]


def lacks(node, other):
    return [17, node, other]


def even():
    return [18]


def settle():
    return [19]


def state():
    return [20]


def owed(centre):
    return [21, centre]


def taken():
    return [22]


def full_line(offices, more):
    """Give back a line that has begun and put so many summaries under way, as messages 1 to more."""
    return [begin(offices)] + [ask(offices)] * more


def answers_of(line):
    """Give back a list of each call's answer."""
    if not 1 <= len(line) <= 200 or line.count(settle()) > 12:
        raise AssertionError(f"no line: {len(line)} calls, {line.count(settle())} of them settle")
    told = answers([number for call in line for number in call])
    found = []
    place = 0
    while place < len(told):
        count = told[place]
        answer = told[place + 1:place + 1 + count]
        if len(answer) != count or count < 1:
            raise AssertionError(f"no answer of {count} numbers at {place} in {told}")
        found.append(answer)
        place += 1 + count
    if len(found) != len(line):
        raise AssertionError(f"{len(line)} calls, {len(found)} answers")
    return found


def told_by(answer, width, skipped=1):
    """Give back what's told behind the answer's first numbers, as tuples of so many numbers."""
    numbers = answer[skipped:]
    if len(numbers) % width != 0:
        raise AssertionError(f"{numbers} isn't made of {width} numbers each")
    return [tuple(numbers[k:k + width]) for k in range(0, len(numbers), width)]


def items_in(answer):
    """Give back the items that the answer tells behind its 0, as tuples."""
    return told_by(answer, 4)


def both(book, other):
    """Give back the items of two lists together, by their forms: of each form the greatest."""
    greatest = {}
    for item in list(book) + list(other):
        greatest[item[0]] = max(item, greatest.get(item[0], item))
    return [greatest[form] for form in sorted(greatest)]


def draw_call(draw, offices, dark, under_way):
    """Draw a call; small numbers, so that items meet, and now and then one that's refused."""
    office = draw.randrange(offices)
    centre = offices + draw.randrange(2)
    node = draw.choice([office, centre])
    sent = draw.choice(under_way) if under_way and draw.random() < 0.95 else draw.randrange(9)
    lit = draw.choice(dark) if dark and draw.random() < 0.9 else node
    name = draw.choice(
        ["take"] * 5 + ["send"] * 6 + ["keep"] * 4 + ["ask"] * 3 + ["deliver"] * (15 if under_way else 1)
        + ["up"] * (5 if dark else 1) + ["cut", "torn", "lose", "double", "wrong"] + ["tell"] * 5
    )
    if draw.random() < 0.01:
        return settle()
    return {
        "take": take(office, draw.randint(1, 3), draw.randint(1, 3), draw.randrange(2), draw.randrange(3)),
        "send": send(office, centre),
        "keep": keep(node),
        "ask": ask(centre),
        "deliver": deliver(sent),
        "up": up(lit),
        "cut": cut(node),
        "torn": torn(node, draw.randrange(2)),
        "lose": lose(sent),
        "double": double(sent),
        "tell": draw.choice([
            memory(node), disk(node), receipts(office), flight(), message(sent), acknowledged(), lacks(office, centre),
            lacks(centre, node), even(), state(), owed(centre), taken(),
        ]),
        "wrong": draw.choice([
            take(office, 21, 1, 0, 0), keep(offices + 2), torn(node, 2), send(centre, office), ask(office), begin(7),
            up(-1), cut(offices + 2), memory(-1), take(office, 1, 1001, 0, 0), deliver(10 ** 18), lose(0), double(-3),
            disk(offices + 2), receipts(centre), message(0), lacks(node, -1), owed(office),
        ]),
    }[name]


def draw_line(seed):
    """Give back how many offices there are, and a drawn line of 100 calls."""
    draw = random.Random(seed)
    offices = 1 + seed % 3
    line = [begin(offices)]
    while len(line) < 100:
        told, sent = answers_of(line + [state(), flight()])[-2:]
        dark = [node for node, numbers in enumerate(told_by(told, 4)) if numbers[0] == 0]
        line.append(draw_call(draw, offices, dark, [numbers[0] for numbers in told_by(sent, 5)]))
    return offices, line


@functools.cache
def drawn_lines():
    """Give back drawn lines, each with how many offices there are; by written seeds, so they're always the same."""
    return [draw_line(seed) for seed in range(12)]


def look(line, calls):
    """Give back what's answered for the calls behind the line."""
    return answers_of(line + calls)[len(line):]


class LineCase(unittest.TestCase):
    """A test whose lines are pairs of a call and the answer it is to have."""

    def check(self, *pairs):
        line = [call for call, answer in pairs]
        for place, (found, (call, answer)) in enumerate(zip(answers_of(line), pairs)):
            self.assertEqual(found, answer, f"call {place}: {call}")

    def check_after(self, line, *pairs):
        """Check the pairs behind calls whose answers other tests check."""
        found = answers_of(line + [call for call, answer in pairs])[len(line):]
        for place, (got, (call, answer)) in enumerate(zip(found, pairs)):
            self.assertEqual(got, answer, f"call {place} behind the line: {call}")
