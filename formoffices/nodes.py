"""A node: its power, its memory, what it owes, and its two slots."""

from formoffices.books import bring_into, items_of


class Slot:
    """What a memory had when it was kept; a slot that isn't right has nothing and the sequence 0."""

    def __init__(self, sequence, book, receipts):
        self.sequence = sequence
        self.book = dict(book)
        self.receipts = list(receipts)


class Node:
    """An office or a centre.

    A receipt is a tuple of a centre and an item, what's owed one of an office and an item.
    Without power book, receipts and owed are empty.
    """

    def __init__(self):
        self.power = True
        self.book = {}
        self.receipts = []
        self.owed = []
        self.slots = [Slot(0, {}, []), Slot(0, {}, [])]

    def other_place(self):
        """Give back the number of the slot that isn't read; 0 if neither is right."""
        return 1 if self.slots[0].sequence > self.slots[1].sequence else 0

    def slot_read(self):
        """Give back the slot that's read; one that isn't right, so an empty one, if neither is."""
        return self.slots[1 - self.other_place()]

    def write_memory(self):
        """Write the memory into the other slot and give back the sequence."""
        sequence = self.slot_read().sequence + 1
        self.slots[self.other_place()] = Slot(sequence, self.book, self.receipts)
        return sequence

    def spoil_other(self):
        """Make the other slot one that isn't right."""
        self.slots[self.other_place()] = Slot(0, {}, [])

    def lose_power(self):
        """Let power go."""
        self.power = False
        self.book = {}
        self.receipts = []
        self.owed = []

    def gain_power(self):
        """Let power come: the memory is what the slot that's read has."""
        slot = self.slot_read()
        self.power = True
        self.book = dict(slot.book)
        self.receipts = list(slot.receipts)

    def holds(self, item):
        """Say whether this very item stands in the memory."""
        return self.book.get(item[0]) == item

    def take_in(self, coming):
        """Let items come into the memory; receipts for items that don't stand any more are gone."""
        bring_into(self.book, coming)
        self.receipts = [receipt for receipt in self.receipts if self.holds(receipt[1])]

    def add_receipt(self, centre, item):
        """Have the centre's receipt for the item, if this very item stands in the memory."""
        receipt = (centre, item)
        if self.holds(item) and receipt not in self.receipts:
            self.receipts.append(receipt)

    def items_without_receipt(self, centre):
        """Give back the memory's items for which there is no receipt from the centre, by their forms' numbers."""
        return [item for item in items_of(self.book) if (centre, item) not in self.receipts]

    def owe(self, office, item):
        """Owe the office a receipt for the item, if it isn't owed already."""
        receipt = (office, item)
        if receipt not in self.owed:
            self.owed.append(receipt)

    def offices_owed(self):
        """Give back the numbers of the offices to which receipts are owed, each once, ascending."""
        return sorted(set([receipt[0] for receipt in self.owed]))

    def items_owed(self, office):
        """Give back the items for which receipts are owed to the office, in order."""
        return [receipt[1] for receipt in self.owed if receipt[0] == office]
