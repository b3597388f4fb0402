"""The calls that only answer: none of them changes anything.

Each takes the session and the call's numbers and gives back what's told behind the 0.
"""

from formoffices.books import items_of, news_for, numbers_of


def memory(session, numbers):
    """Tell a node's book."""
    place = numbers[0]
    session.check_node(place)
    node = session.node_with_power(place)
    return numbers_of(items_of(node.book))


def disk(session, numbers):
    """Tell of a node's slots, and the book of the one that's read."""
    place = numbers[0]
    session.check_node(place)
    node = session.nodes[place]
    told = []
    for slot in node.slots:
        told.extend([slot.sequence, len(slot.book)])
    return told + numbers_of(items_of(node.slot_read().book))


def receipts(session, numbers):
    """Tell the forms and the centres of an office's receipts."""
    office = numbers[0]
    session.check_office(office)
    node = session.node_with_power(office)
    told = []
    for form, centre in sorted([(item[0], centre) for centre, item in node.receipts]):
        told.extend([form, centre])
    return told


def flight(session, numbers):
    """Tell of the messages under way, as they were sent."""
    told = []
    for number, sent in session.under_way.items():
        told.extend([number, sent.kind, sent.sender, sent.receiver, len(sent.carried)])
    return told


def message(session, numbers):
    """Tell a message's items."""
    sent = session.message_under_way(numbers[0])
    return numbers_of(sent.carried)


def acknowledged(session, numbers):
    """Tell what was acknowledged, and by which centre."""
    return numbers_of_pairs(list(session.acknowledged))


def lacks(session, numbers):
    """Tell of which forms one node has news for another one."""
    place, other = numbers
    session.check_node(place)
    session.check_node(other)
    node = session.node_with_power(place)
    other_node = session.node_with_power(other)
    return [item[0] for item in news_for(node.book, other_node.book)]


def even(session, numbers):
    """Tell whether both centres have the same and nobody has news for it."""
    return [1 if is_even(session) else 0]


def state(session, numbers):
    """Tell how each node is."""
    told = []
    for node in session.nodes:
        told.append(1 if node.power else 0)
        told.extend([node.slot_read().sequence, len(node.book), len(node.owed)])
    return told


def owed(session, numbers):
    """Tell to whom and for what a centre owes receipts."""
    centre = numbers[0]
    session.check_centre(centre)
    node = session.node_with_power(centre)
    return numbers_of_pairs(node.owed)


def taken(session, numbers):
    """Tell what was taken in."""
    return numbers_of(list(session.taken))


def numbers_of_pairs(pairs):
    """Give back pairs of a node's number and an item as numbers, five for each."""
    told = []
    for place, item in pairs:
        told.append(place)
        told.extend(item)
    return told


def is_even(session):
    """Say whether both centres have power and the same book, and no office with power has news for it."""
    first, second = [session.nodes[centre] for centre in session.centres()]
    if not first.power or not second.power or first.book != second.book:
        return False
    for node in session.nodes[:session.offices]:
        # An office without power has an empty book, which has no news.
        if news_for(node.book, first.book):
            return False
    return True


TELLING = {
    11: memory,
    12: disk,
    13: receipts,
    14: flight,
    15: message,
    16: acknowledged,
    17: lacks,
    18: even,
    20: state,
    21: owed,
    22: taken,
}


def tell(session, number, numbers):
    """Do the call of this number; give back what's told behind the 0."""
    call = TELLING[number]
    return call(session, numbers)
