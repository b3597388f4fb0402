"""Answers for a line of calls."""

from formoffices.refusals import NoPower, NotBegun, NothingThere, NotInRange, TooManyUnderWay, check_range
from formoffices.session_calls import perform
from formoffices.sessions import Session

BEGIN = 0
HOW_MANY_NUMBERS = {
    0: 1, 1: 5, 2: 1, 3: 2, 4: 1, 5: 1, 6: 2, 7: 1, 8: 1, 9: 1, 10: 1, 11: 1,
    12: 1, 13: 1, 14: 0, 15: 1, 16: 0, 17: 2, 18: 0, 19: 0, 20: 0, 21: 1, 22: 0,
}


class Line:
    """One line of calls; it has no session till a begin has been answered by 0."""

    def __init__(self):
        self.session = None

    def answer_call(self, number, numbers):
        """Give back the call's answer: 0 and what's told, or the refusal alone."""
        try:
            return [0] + self.follow(number, numbers)
        except NotInRange:
            return [-1]
        except NoPower:
            return [-3]
        except NothingThere:
            return [-4]
        except TooManyUnderWay:
            return [-5]
        except NotBegun:
            return [-7]

    def follow(self, number, numbers):
        """Do the call and give back what's told behind the 0."""
        if number == BEGIN:
            check_range(numbers[0], 1, 4)
            self.session = Session(numbers[0])
            return []
        if self.session is None:
            raise NotBegun()
        return perform(self.session, number, numbers)


def answers(calls):
    """Give back for each call, in order, how many numbers are answered, then these."""
    line = Line()
    told = []
    place = 0
    while place < len(calls):
        number = calls[place]
        behind = place + 1 + HOW_MANY_NUMBERS[number]
        answer = line.answer_call(number, calls[place + 1:behind])
        told.append(len(answer))
        told.extend(answer)
        place = behind
    return told
