"""The calls that change a session, and which call has which number.

Each takes the session and the call's numbers and gives back what's told behind the 0. What is
refused is refused ahead of any change, the refusal nearest to 0 first.
"""

from formoffices.books import make_item
from formoffices.happenings import keep_memory, let_come, send_forms, send_summary
from formoffices.refusals import NothingThere, check_range
from formoffices.settling import settle_all
from formoffices.telling_calls import tell


def take(session, numbers):
    """Take an item in at an office."""
    office, form, version, withdrawn, tells = numbers
    session.check_office(office)
    check_range(form, 1, 20)
    check_range(version, 1, 1000)
    check_range(withdrawn, 0, 1)
    check_range(tells, 0, 999)
    node = session.node_with_power(office)
    item = make_item(form, version, withdrawn, tells)
    session.taken[item] = True
    node.take_in([item])
    return [1 if node.holds(item) else 0]


def keep(session, numbers):
    """Let a node keep."""
    place = numbers[0]
    session.check_node(place)
    node = session.node_with_power(place)
    session.check_room(len(node.offices_owed()))
    return keep_memory(session, place)


def torn(session, numbers):
    """Let power go while a node keeps."""
    place, begun = numbers
    session.check_node(place)
    check_range(begun, 0, 1)
    node = session.node_with_power(place)
    if begun == 1:
        node.spoil_other()
    node.lose_power()
    return []


def cut(session, numbers):
    """Let a node's power go."""
    place = numbers[0]
    session.check_node(place)
    node = session.node_with_power(place)
    node.lose_power()
    return []


def up(session, numbers):
    """Let a node's power come."""
    place = numbers[0]
    session.check_node(place)
    node = session.nodes[place]
    if node.power:
        raise NothingThere()
    node.gain_power()
    return [node.slot_read().sequence, len(node.book)]


def send(session, numbers):
    """Send what an office has no receipt for from a centre."""
    office, centre = numbers
    session.check_office(office)
    session.check_centre(centre)
    node = session.node_with_power(office)
    if not node.items_without_receipt(centre):
        raise NothingThere()
    session.check_room(1)
    return [send_forms(session, office, centre)]


def ask(session, numbers):
    """Send a centre's summary to the other one."""
    centre = numbers[0]
    session.check_centre(centre)
    session.node_with_power(centre)
    session.check_room(1)
    return [send_summary(session, centre)]


def deliver(session, numbers):
    """Let a message come."""
    number = numbers[0]
    session.message_under_way(number)
    return let_come(session, number)


def lose(session, numbers):
    """Let a message be lost."""
    number = numbers[0]
    session.message_under_way(number)
    session.under_way.pop(number)
    return []


def double(session, numbers):
    """Put a message under way once more."""
    message = session.message_under_way(numbers[0])
    session.check_room(1)
    return [session.send_off(message)]


def settle(session, numbers):
    """Settle all."""
    return [settle_all(session)]


CALLS = {
    1: take,
    2: keep,
    3: torn,
    4: cut,
    5: up,
    6: send,
    7: ask,
    8: deliver,
    9: lose,
    10: double,
    19: settle,
}


def perform(session, number, numbers):
    """Do the call of this number; give back what's told behind the 0."""
    if number not in CALLS:
        return tell(session, number, numbers)
    call = CALLS[number]
    return call(session, numbers)
