"""Desks: lines said to a Clos net and a frame, answered, written down and done again."""

from crossloom.clos import Clos, blocking_row, can_carry, never_blocks
from crossloom.errors import BadGate, BadNet, BadRate, BadSize, BadStore, BadText, Blocked, FabricFault, NoSuch
from crossloom.frames import frame, longest_wait, no_rates, too_much, widened

FIGURES = '0123456789'
BASE = 9973
WIDE = 2000003
# The words that change something, and how many numbers each has.
WORDS = {"open": 3, "call": 2, "move": 2, "end": 1, "frame": 2, "rate": 3}
STROKE = "-"


def number(word):
    """Return the number of a word of one to four figures; BadText."""
    if not 0 < len(word) < 5 or word.strip(FIGURES) != '':
        raise BadText("a word that is no number")
    return int(word)


def figure_of(text):
    """Return a text's figure: its signs' numbers added up, then weighed by their places from one on."""
    signs = [ord(sign) for sign in text]
    weighed = sum([place * sign for place, sign in enumerate(signs, start=1)])
    return sum(signs) % WIDE * BASE + weighed % BASE


def in_line(numbers):
    """Return numbers as a line, blanks between."""
    return " ".join([str(each) for each in numbers])


class Desk:
    """A net or none, the rates of a frame, and the text of what was done."""

    def __init__(self):
        self.net = None
        self.slots = 0
        self.rates = []
        self.text = ""
        self.many = 0

    def say(self, line):
        """Do or answer a line; return the answer's lines, ("error: ...",) for what is refused."""
        try:
            return self.do(line)
        except BadText:
            return ("error: text",)
        except BadGate:
            return ("error: gate",)
        except BadNet:
            return ("error: net",)
        except BadRate:
            return ("error: rate",)
        except BadSize:
            return ("error: size",)
        except Blocked:
            return ("error: blocked",)
        except NoSuch:
            return ("error: no such",)

    def do(self, line):
        """Do or answer a line by its first word; what changes something is written down; BadText."""
        words = line.split()
        if words == []:
            raise BadText("a bare line")
        word = words[0]
        numbers = [number(each) for each in words[1:]]
        if wanted(word) == len(numbers):
            answer = self.change(word, numbers)
            self.write(" ".join(words))
            return answer
        if word == "show" and numbers == []:
            return tuple([in_line(call) for call in self.open_net().shown()])
        if word == "sure" and numbers == []:
            return (self.sure(),)
        if word == "wait" and len(numbers) == 2:
            return (self.wait(numbers[0], numbers[1]),)
        raise BadText("a line that is none of the language")

    def open_net(self):
        """Return the net; NoSuch for none."""
        if self.net is None:
            raise NoSuch("no net is open")
        return self.net

    def change(self, word, numbers):
        """Do what changes something; return the answer."""
        if word == "open":
            self.net = Clos(numbers[0], numbers[1], numbers[2])
        if word == "call":
            return (str(self.open_net().put(numbers[0], numbers[1])),)
        if word == "move":
            return tuple([str(one) for one in self.open_net().put_moving(numbers[0], numbers[1])])
        if word == "end":
            self.open_net().end(numbers[0])
        if word == "frame":
            self.new_frame(numbers)
        if word == "rate":
            return self.give(numbers[0], numbers[1], numbers[2])
        return ()

    def new_frame(self, numbers):
        """Begin a frame of so many gates and slots, with no rates; BadSize for too many of them."""
        if numbers[0] > 12 or numbers[1] < 1 or numbers[1] > 60:
            raise BadSize("a frame of another size than it may have")
        self.slots = numbers[1]
        self.rates = no_rates(numbers[0])

    def give(self, one, gate, much):
        """Give a pair of gates so many slots a frame; return nothing; NoSuch, BadRate with what is too much."""
        self.check_pair(one, gate)
        # What the pair is given stands for what it had.
        rows = widened(self.rates, one, gate, much - self.rates[one][gate])
        over = too_much(rows, self.slots)
        if over is not None:
            raise BadRate(f"too much at gate {over[0]} {over[1]}")
        self.rates = rows
        return ()

    def check_pair(self, one, gate):
        """Refuse with NoSuch a pair of gates that the frame doesn't have."""
        if not 0 <= one < len(self.rates) or not 0 <= gate < len(self.rates):
            raise NoSuch("a gate that the frame doesn't have")

    def sure(self):
        """Return whether a net never blocks, can carry all with calls moved, or neither."""
        net = self.open_net()
        if never_blocks(net.middle, net.gates):
            return "never blocks"
        return "carries all moved" if can_carry(net.middle, net.gates) else "too small"

    def wait(self, one, gate):
        """Return the most slots a cell waits at the head for a pair's slot, a stroke for a pair without one; NoSuch."""
        self.check_pair(one, gate)
        slots = longest_wait(frame(self.rates, self.slots), one, gate)
        return STROKE if slots is None else str(slots)

    def write(self, body):
        """Write a done line with its number and figure."""
        whole = f"{self.many} {body}"
        self.text += f"{whole} {figure_of(whole)}\n"
        self.many += 1


def wanted(word):
    """Return how many numbers a word that changes something has."""
    return WORDS.get(word)


def lines_of(text):
    """Return the lines of a written text, a row without an end left out; BadStore."""
    found = []
    for place, row in enumerate(text.split("\n")[:-1]):
        whole, _, figure = row.rpartition(" ")
        head, _, line = whole.partition(" ")
        if head != str(place) or figure != str(figure_of(whole)):
            raise BadStore("a row that isn't whole")
        found.append(line)
    return tuple(found)


def done_again(text):
    """Return the desk that a text's lines make from nothing; BadStore for what can't be."""
    desk = Desk()
    for line in lines_of(text):
        try:
            desk.do(line)
        except FabricFault:
            raise BadStore("a line that can't have been done") from None
    # What a desk doesn't write, as a line that is only answered, no text has.
    if desk.text != text[:text.rfind("\n") + 1]:
        raise BadStore("a line that can't have been written")
    return desk


def told_block(middle, gates):
    """Return a row of calls that blocks a net of three switches, as lines; BadNet where none does."""
    row = blocking_row(middle, gates)
    if row is None:
        raise BadNet("a net that no calls block")
    return tuple([in_line(call) for call in row[0] + (row[1],)])
