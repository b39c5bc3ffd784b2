"""Marks: a link with a far room for so many cells, and marks that come back, so that none is ever lost."""

from crossloom.errors import BadSize


class Link:
    """A link of some slots each way, a far room, marks at hand, and what is on its way."""

    def __init__(self, room, there, back):
        if room < 0 or there < 0 or back < 0:
            raise BadSize("a room or a way below nought")
        self.room = room
        self.there = there
        self.back = back
        self.marks = room
        self.cells = []
        self.notes = []
        self.inside = []
        self.slot = 0
        self.most = 0

    def turn(self, cells, drains):
        """Do a slot: what is due comes in, cells, a list, leave while marks last, drains go on; return (sent, gone)."""
        self.take_notes()
        self.let_in()
        sent = tuple(cells[:self.marks])
        self.marks -= len(sent)
        self.cells.extend([(cell, self.slot + self.there) for cell in sent])
        # Once more, for with no slots there what leaves comes in at once.
        self.let_in()
        gone = tuple(self.inside[:drains])
        self.inside = self.inside[len(gone):]
        self.notes.extend([self.slot + self.back for _ in gone])
        # Once more, for with no slots back a mark is at hand behind the slot in which its cell goes on.
        self.take_notes()
        self.slot += 1
        return (sent, gone)

    def take_notes(self):
        """Let the marks that are due come back."""
        due = len([slot for slot in self.notes if slot <= self.slot])
        self.notes = self.notes[due:]
        self.marks += due

    def let_in(self):
        """Let the cells that are due come in."""
        due = [cell for cell, slot in self.cells if slot <= self.slot]
        self.cells = self.cells[len(due):]
        self.inside.extend(due)
        self.most = max(self.most, len(self.inside))

    def counted(self):
        """Return the marks at hand, the cells on their way and inside, and the notes on their way, in all."""
        return self.marks + len(self.cells) + len(self.inside) + len(self.notes)


def sent_in(room, there, back, slots):
    """Return how many cells leave in so many slots when there is always one to send and all go on at once."""
    link = Link(room, there, back)
    # No more than the room can ever be inside.
    return sum([len(link.turn([slot], room)[0]) for slot in range(slots)])


def room_for_all(there, back):
    """Return the least room with which a cell can leave in every slot: the slots there, and back, one at least."""
    return there + max(back, 1)


def link_run(room, there, back, cells, drains):
    """Return (cells that left, cells that went on) in each slot, cells not sent waiting ahead of new ones."""
    link = Link(room, there, back)
    waiting = []
    found = []
    # Behind its last slot a row brings no cells, or lets none go on.
    for slot in range(max(len(cells), len(drains))):
        waiting = waiting + (list(cells[slot]) if slot < len(cells) else [])
        sent, gone = link.turn(waiting, drains[slot] if slot < len(drains) else 0)
        waiting = waiting[len(sent):]
        found.append((sent, gone))
    return tuple(found)
