"""Messages and their kinds."""

FORMS = 1
RECEIPT = 2
SUMMARY = 3
FILLING = 4


class Message:
    """A message but for its number; nothing of it changes, so doubled ones may be one object."""

    def __init__(self, kind, sender, receiver, carried):
        self.kind = kind
        self.sender = sender
        self.receiver = receiver
        self.carried = tuple(carried)
