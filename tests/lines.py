"""What the tests of calls have in common: the calls by name, and lines that are asked and checked."""

import unittest

from formoffices.offices import answers


def begin(offices):
    return [0, offices]


def take(office, form, version, withdrawn, tells):
    return [1, office, form, version, withdrawn, tells]


def keep(node):
    return [2, node]


def torn(node, begun):
    return [3, node, begun]


def cut(node):
    return [4, node]


def up(node):
    return [5, node]


def send(office, centre):
    return [6, office, centre]


def ask(centre):
    return [7, centre]


def deliver(message):
    return [8, message]


def lose(message):
    return [9, message]


def double(message):
    return [10, message]


def memory(node):
    return [11, node]


def answers_of(line):
    """Give back a list of each call's answer."""
    told = answers([number for call in line for number in call])
    found = []
    place = 0
    while place < len(told):
        count = told[place]
        answer = told[place + 1:place + 1 + count]
        if len(answer) != count or count < 1:
            raise AssertionError(f"no answer of {count} numbers at {place} in {told}")
        found.append(answer)
        place += 1 + count
    if len(found) != len(line):
        raise AssertionError(f"{len(line)} calls, {len(found)} answers")
    return found


def items_in(answer):
    """Give back the items that memory's answer tells, as tuples."""
    numbers = answer[1:]
    return [tuple(numbers[k:k + 4]) for k in range(0, len(numbers), 4)]


def both(book, other):
    """Give back the items of two lists together, by their forms: of each form the greatest."""
    greatest = {}
    for item in list(book) + list(other):
        greatest[item[0]] = max(item, greatest.get(item[0], item))
    return [greatest[form] for form in sorted(greatest)]


class LineCase(unittest.TestCase):
    """A test whose lines are pairs of a call and the answer it is to have."""

    def check(self, *pairs):
        line = [call for call, answer in pairs]
        self.assertLessEqual(len(line), 200)
        for place, (found, (call, answer)) in enumerate(zip(answers_of(line), pairs)):
            self.assertEqual(found, answer, f"call {place}: {call}")

    def check_after(self, line, *pairs):
        """Check the pairs behind calls whose answers other tests check."""
        found = answers_of(line + [call for call, answer in pairs])[len(line):]
        for place, (got, (call, answer)) in enumerate(zip(found, pairs)):
            self.assertEqual(got, answer, f"call {place} behind the line: {call}")
