"""The session that a begin makes: its nodes, the messages under way, and what's noted for ever."""

from formoffices.nodes import Node
from formoffices.refusals import NoPower, NothingThere, TooManyUnderWay, check_range

MOST_UNDER_WAY = 40


class Session:
    """Offices have the numbers from 0, the two centres the next two."""

    def __init__(self, offices):
        self.offices = offices
        self.nodes = [Node() for number in range(offices + 2)]
        self.under_way = {}
        self.last_number = 0
        self.taken = {}
        self.acknowledged = {}

    def check_node(self, number):
        """Refuse a number that no node has."""
        check_range(number, 0, self.offices + 1)

    def check_office(self, number):
        """Refuse a number that no office has."""
        check_range(number, 0, self.offices - 1)

    def check_centre(self, number):
        """Refuse a number that no centre has."""
        check_range(number, self.offices, self.offices + 1)

    def centres(self):
        """Give back the numbers of the first and the second centre."""
        return [self.offices, self.offices + 1]

    def node_with_power(self, number):
        """Give back the node of this number; refuse one without power."""
        node = self.nodes[number]
        if not node.power:
            raise NoPower()
        return node

    def other_centre(self, centre):
        """Give back the number of the centre that isn't this one."""
        return 2 * self.offices + 1 - centre

    def message_under_way(self, number):
        """Give back the message of this number; refuse one that isn't under way."""
        if number not in self.under_way:
            raise NothingThere()
        return self.under_way[number]

    def check_room(self, more):
        """Refuse more messages than may be under way."""
        if len(self.under_way) + more > MOST_UNDER_WAY:
            raise TooManyUnderWay()

    def send_off(self, message):
        """Put the message under way and give back its number."""
        self.last_number += 1
        self.under_way[self.last_number] = message
        return self.last_number
