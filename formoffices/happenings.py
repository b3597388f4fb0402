"""What happens when a node keeps, when something is sent, and when a message comes."""

from formoffices.books import bring_into, items_of, news_for
from formoffices.messages import FILLING, FORMS, RECEIPT, SUMMARY, Message


def keep_memory(session, place):
    """Let the node keep; give back the sequence, then the numbers of the messages sent."""
    node = session.nodes[place]
    told = [node.write_memory()]
    for office in node.offices_owed():
        told.append(session.send_off(Message(RECEIPT, place, office, node.items_owed(office))))
    node.owed = []
    return told


def send_forms(session, office, centre):
    """Send what the office has no receipt for from the centre; give back the message's number."""
    carried = session.nodes[office].items_without_receipt(centre)
    return session.send_off(Message(FORMS, office, centre, carried))


def send_summary(session, centre):
    """Send the centre's book to the other one; give back the message's number."""
    carried = items_of(session.nodes[centre].book)
    return session.send_off(Message(SUMMARY, centre, session.other_centre(centre), carried))


def let_come(session, number):
    """Let the message come; give back 1 if whoever it's for has power, else 0, then what's sent back."""
    message = session.under_way.pop(number)
    node = session.nodes[message.receiver]
    if not node.power:
        return [0]
    if message.kind == SUMMARY:
        return [1] + send_back(session, message)
    if message.kind == RECEIPT:
        note_receipts(session, message)
    else:
        node.take_in(message.carried)
    if message.kind == FORMS:
        for item in message.carried:
            node.owe(message.sender, item)
    return [1]


def note_receipts(session, message):
    """Acknowledge what the receipt brings; the office has receipts for what stands there still."""
    office = session.nodes[message.receiver]
    for item in message.carried:
        session.acknowledged[(message.sender, item)] = True
        office.add_receipt(message.sender, item)


def send_back(session, message):
    """Send the news for a summary back to who asked; give back the number, or nothing if there are none."""
    asked = {}
    bring_into(asked, message.carried)
    news = news_for(session.nodes[message.receiver].book, asked)
    if not news:
        return []
    return [session.send_off(Message(FILLING, message.receiver, message.sender, news))]
