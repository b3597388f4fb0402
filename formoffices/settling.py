"""How all is settled."""

from formoffices.happenings import keep_memory, let_come, send_forms, send_summary


def settle_all(session):
    """Settle all; give back how many messages were sent."""
    before = session.last_number
    for node in session.nodes:
        if not node.power:
            node.gain_power()
    session.under_way = {}
    for office in range(session.offices):
        for centre in session.centres():
            bring_forms(session, office, centre)
    for centre in session.centres():
        keep_and_acknowledge(session, centre)
    for centre in session.centres():
        ask_and_fill(session, centre)
    for place in range(len(session.nodes)):
        keep_memory(session, place)
    return session.last_number - before


def bring_forms(session, office, centre):
    """Let the office send to the centre, if it has anything to send, and let this come."""
    if session.nodes[office].items_without_receipt(centre):
        let_come(session, send_forms(session, office, centre))


def keep_and_acknowledge(session, centre):
    """Let the centre keep, and its receipts come in the order in which they were sent."""
    for number in keep_memory(session, centre)[1:]:
        let_come(session, number)


def ask_and_fill(session, centre):
    """Let the centre's summary come, and what's sent back."""
    for number in let_come(session, send_summary(session, centre))[1:]:
        let_come(session, number)
