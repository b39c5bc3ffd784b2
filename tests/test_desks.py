"""Points [1], [28] and [30]: desks."""

import random

from crossloom import desks
from crossloom.clos import Clos, blocking_row
from crossloom.desks import Desk, done_again, figure_of, lines_of, number, told_block, wanted
from crossloom.errors import BadGate, BadNet, BadRate, BadSize, BadStore, BadText, Blocked, NoSuch
from crossloom.frames import frame, longest_wait
from tests.every import Case, state

LINES = ("open 2 2 2", "call 0 2", "call 2 1", "move 1 0", "end 2", "frame 3 4", "rate 0 1 3", "rate 2 2 1", "rate 1 0 4",
         "call 3 3", "open 3 2 2", "move 0 0", "rate 0 1 1")
ASKED = ("show", "sure", "wait 0 1", "wait 2 2", "wait 1 1", "call 3 1", "move 2 3")


def told(lines):
    """Return a desk to which lines have been said."""
    desk = Desk()
    for line in lines:
        desk.say(line)
    return desk


def slow_figure(text):
    """Return a text's figure by the words of point [28]."""
    signs = weighed = 0
    for place in range(len(text)):
        signs += ord(text[place])
        weighed += ord(text[place]) * (place + 1)
    return signs % 2000003 * 9973 + weighed % 9973


def written(lines):
    """Return the text of lines, written by the words of point [28]."""
    rows = [f"{place} {line}" for place, line in enumerate(lines)]
    return "".join(f"{row} {slow_figure(row)}\n" for row in rows)


def drawn_line(draws):
    """Return a drawn line, most of them of the language."""
    word, many = draws.choice((("open", 3), ("call", 2), ("call", 2), ("call", 2), ("move", 2), ("move", 2), ("end", 1),
                               ("frame", 2), ("rate", 3), ("rate", 3), ("show", 0), ("sure", 0), ("wait", 2)))
    many += draws.choice((0, 0, 0, 0, 0, 0, 0, 1))
    low = 1 if word in ("open", "frame") else 0
    return " ".join([word] + [str(draws.randint(low, 4)) for _ in range(many)])


class Numbers(Case):
    def test_one_to_four_figures(self):
        for value in list(range(12)) + [99, 100, 999, 1000, 9999]:
            self.same(number(str(value)), value)
        self.same([number("0007"), number("00"), number("010")], [7, 0, 10])

    def test_refused(self):
        for word in ("", "10000", "00000", "12345", "a", "1a", "a1", "1a1", "-1", "+1", "1.", " 1", "1 ", "1 1", "1_0",
                     "\u0663", "\u00b2", "\n"):
            self.refused(BadText, number, word)

    def test_constants(self):
        self.same((desks.FIGURES, desks.BASE, desks.WIDE), ("0123456789", 9973, 2000003))


class Figures(Case):
    def test_by_the_words(self):
        for text in ("", "a", "ab", "ba", "0 open 2 2 2", "x" * 300, "\u1234" * 900, written(LINES)):
            self.same(figure_of(text), slow_figure(text))
        self.same([figure_of(""), figure_of("A"), figure_of("AB")], [0, 65 * 9973 + 65, 131 * 9973 + 197])

    def test_signs_turned_round_are_seen(self):
        self.assertNotEqual(figure_of("0 call 1 2"), figure_of("0 call 2 1"))


class Words(Case):
    def test_fields(self):
        desk = Desk()
        self.same((desk.net, desk.slots, desk.rates, desk.text, desk.many), (None, 0, [], "", 0))
        desk = told(("open 2 3 4", "frame 2 5", "rate 1 0 2"))
        self.assertIsInstance(desk.net, Clos)
        self.same((desk.net.middle, desk.net.gates, desk.net.switches), (2, 3, 4))
        self.same((desk.slots, desk.rates, desk.many), (5, [(0, 0), (2, 0)], 3))

    def test_how_many_numbers(self):
        self.same([wanted(word) for word in ("open", "call", "move", "end", "frame", "rate")], [3, 2, 2, 1, 2, 3])

    def test_calls(self):
        desk = Desk()
        self.same([desk.say(line) for line in ("open 2 2 2", "show", "call 0 2", "call 2 1", "show")],
                  [(), (), ("0",), ("0",), ("0 2 0", "2 1 0")])
        # Gate 3's call finds middle one 1 free at both ends.
        self.same([desk.say(line) for line in ("call 3 3", "end 3", "end 2", "show")],
                  [("1",), (), (), ("0 2 0",)])

    def test_calls_moved(self):
        desk = Desk()
        desk.say("open 2 2 2")
        desk.net.put_by(0, 2, 0)
        desk.net.put_by(2, 0, 1)
        self.same(desk.say("call 1 1"), ("error: blocked",))
        self.same([desk.say("move 1 1"), desk.say("show")], [("2",), ("0 2 0", "1 1 1", "2 0 0")])
        self.same(told(("open 2 2 2",)).say("move 3 0"), ())

    def test_as_the_net_itself(self):
        draws = random.Random(121)
        moved = 0
        for middle, gates, switches in ((2, 2, 2), (2, 2, 3), (2, 2, 4), (3, 3, 3), (4, 4, 3), (1, 2, 2)):
            desk, net = Desk(), Clos(middle, gates, switches)
            desk.say(f"open {middle} {gates} {switches}")
            for _ in range(500):
                one, other = draws.randrange(net.size()), draws.randrange(net.size())
                word = draws.choice(("call", "move", "move", "end"))
                try:
                    answer = {"call": lambda: (str(net.put(one, other)),),
                              "move": lambda: tuple(map(str, net.put_moving(one, other))),
                              "end": lambda: tuple(map(str, net.end(one) or ()))}[word]()
                    moved += word == "move" and answer != ()
                except (BadGate, Blocked) as refusal:
                    answer = ("error: gate" if isinstance(refusal, BadGate) else "error: blocked",)
                self.same(desk.say(f"{word} {one}" + ("" if word == "end" else f" {other}")), answer)
                self.same(desk.say("show"), tuple(f"{row[0]} {row[1]} {row[2]}" for row in net.shown()))
        self.assertGreater(moved, 10)

    def test_sure(self):
        for middle in range(1, 8):
            for gates in range(1, 5):
                desk = told((f"open {middle} {gates} 3",))
                wanted_line = "never blocks" if middle >= 2 * gates - 1 else "carries all moved"
                self.same(desk.say("sure"), (wanted_line if middle >= gates else "too small",))

    def test_rates_and_waits(self):
        desk = Desk()
        self.same([desk.say(line) for line in ("frame 2 3", "rate 0 1 2", "rate 1 0 1", "wait 0 1", "wait 1 0", "wait 0 0")],
                  [(), (), (), ("2",), ("3",), ("-",)])
        # A pair is given just so many slots, whatever it had.
        self.same([desk.say("rate 0 1 3"), desk.say("wait 0 1"), desk.rates], [(), ("1",), [(0, 3), (1, 0)]])
        self.same([desk.say("rate 0 1 0"), desk.say("wait 0 1")], [(), ("-",)])

    def test_waits_as_the_frame_tells(self):
        draws = random.Random(122)
        for _ in range(30):
            desk = told(("frame 3 6",))
            for _ in range(12):
                desk.say(f"rate {draws.randrange(3)} {draws.randrange(3)} {draws.randint(0, 4)}")
            plan = frame(desk.rates, 6)
            for one in range(3):
                for gate in range(3):
                    slots = longest_wait(plan, one, gate)
                    self.same(desk.say(f"wait {one} {gate}"), ("-" if slots is None else str(slots),))
                    self.same(desk.wait(one, gate), "-" if slots is None else str(slots))

    def test_the_greatest_frame(self):
        desk = Desk()
        self.same([desk.say("frame 12 60"), desk.say("rate 11 11 60"), desk.say("wait 11 11")], [(), (), ("1",)])
        self.same([desk.say("frame 0 1"), desk.say("wait 0 0"), desk.rates], [(), ("error: no such",), []])

    def test_blanks_do_not_matter(self):
        desk = told(("  open   3 2  2 ", "\tcall 0 3"))
        self.same((desk.text, desk.say(" show ")), (written(("open 3 2 2", "call 0 3")), ("0 3 0",)))


class Refusals(Case):
    def setUp(self):
        self.desk = told(("open 1 2 2", "call 0 2", "frame 2 4", "rate 0 1 3"))

    def test_each_word(self):
        rows = {
            "text": ("", "   ", "hello", "Open 1 1 1", "open", "open 1 1", "open 1 1 1 1", "call 1", "call 1 2 3", "move",
                     "move 1", "end", "end 1 2", "frame 1", "frame 1 2 3", "rate 1 1", "rate 1 1 1 1", "show 1", "sure 0",
                     "wait 1", "wait 1 1 1", "call 1 x", "call 1 10000", "end 00000", "call -1 0", "1 2 3", "show show"),
            "gate": ("call 0 1", "call 1 2", "call 4 1", "call 1 4", "move 0 3", "move 9999 0", "end 1", "end 4"),
            "net": ("open 0 1 1", "open 1 0 1", "open 1 1 0"),
            "rate": ("rate 0 1 5", "rate 0 0 2", "rate 1 1 2", "rate 1 0 9999"),
            "size": ("frame 13 4", "frame 2 0", "frame 2 61", "frame 9999 9999"),
            "blocked": ("call 1 0", "move 1 0", "call 3 3", "move 2 3"),
            "no such": ("rate 2 0 1", "rate 0 2 1", "wait 2 0", "wait 0 2", "wait 9999 0"),
        }
        before = state(self.desk)
        for text, lines in rows.items():
            for line in lines:
                self.same((line, self.desk.say(line)), (line, (f"error: {text}",)))
                # A refused line leaves all as it was.
                self.assertEqual(state(self.desk), before)

    def test_with_no_net_and_no_frame(self):
        desk = Desk()
        for line in ("call 0 0", "move 0 0", "end 0", "show", "sure", "rate 0 0 1", "wait 0 0"):
            self.same(desk.say(line), ("error: no such",))
        self.assertEqual(state(desk), state(Desk()))
        self.refused(NoSuch, desk.open_net)
        self.refused(NoSuch, desk.sure)

    def test_done_by_themselves(self):
        desk = self.desk
        for kind, line in ((BadText, ""), (BadText, "what"), (BadText, "call 1 12345"), (BadText, "call 1"),
                           (BadGate, "call 0 1"), (BadGate, "end 3"), (BadNet, "open 0 1 1"), (BadRate, "rate 0 1 5"),
                           (BadSize, "frame 13 1"), (Blocked, "call 1 0"), (NoSuch, "rate 7 0 1"), (NoSuch, "wait 0 7")):
            self.refused(kind, desk.do, line)
        self.refused(NoSuch, desk.give, 2, 0, 1)
        self.refused(NoSuch, desk.give, 0, -1, 1)
        self.refused(BadRate, desk.give, 0, 0, 2)
        self.refused(NoSuch, desk.wait, -1, 0)
        self.refused(BadSize, desk.change, "frame", [13, 4])
        self.refused(BadNet, desk.change, "open", [0, 1, 1])
        self.same([desk.give(0, 0, 1), desk.rates, desk.open_net() is desk.net], [(), [(1, 3), (0, 0)], True])

    def test_text_comes_ahead_of_all_else(self):
        self.same([Desk().say("call 0 x"), Desk().say("end 0 0"), Desk().say("frame 13 x")], [("error: text",)] * 3)


class Texts(Case):
    def test_what_changes_something_is_written(self):
        desk = Desk()
        done = []
        for line in ("sure",) + LINES + ("show", "wait 0 1", "call 0 9", "what"):
            answer = desk.say(line)
            if line in LINES and not answer[:1] == ("error: blocked",):
                done.append(line)
            self.same((desk.text, desk.many), (written(done), len(done)))
        self.same(done, list(LINES))

    def test_written_by_itself(self):
        desk = Desk()
        self.same([desk.write("a b"), desk.write("c"), desk.text, desk.many], [None, None, written(("a b", "c")), 2])

    def test_lines(self):
        self.same([lines_of(written(LINES)), lines_of(""), lines_of("0 open"), lines_of(written(("open 1 1 1",))[:-1])],
                  [LINES, (), (), ()])
        # A row without an end is left out, whatever it holds.
        self.same(lines_of(written(LINES[:3]) + "3 x"), LINES[:3])

    def test_not_whole(self):
        good = written(LINES)
        for text in ("\n", " \n", "x\n", good + "\n", "\n" + good, good[2:], good.replace("\n", "\n\n", 1), good + good,
                     good.replace("\n", " \n"), written(("open 1 1 1",)).replace("\n", "\r\n"), "0\n", "0 0\n"):
            self.refused(BadStore, lines_of, text)
            self.refused(BadStore, done_again, text)

    def test_cut_behind_any_line_a_desk_answers_alike(self):
        text = written(LINES)
        rows = text.splitlines(keepends=True)
        for count in range(len(rows) + 1):
            desk = done_again("".join(rows[:count]))
            twin = told(LINES[:count])
            self.assertEqual(state(desk), state(twin))
            for line in ASKED:
                self.same(desk.say(line), twin.say(line))
            self.same(desk.text, twin.text)

    def test_cut_anywhere(self):
        text = written(LINES[:6])
        for end in range(len(text)):
            self.same(done_again(text[:end]).text, text[:text.rfind("\n", 0, end) + 1])

    def test_drawn_lines_are_done_again(self):
        draws = random.Random(123)
        refused = 0
        for _ in range(60):
            desk = Desk()
            for _ in range(40):
                line = drawn_line(draws)
                before = state(desk)
                answer = desk.say(line)
                if answer[:1] and answer[0].startswith("error:"):
                    refused += 1
                    self.assertEqual(state(desk), before)
                if line.split()[0] in ("show", "sure", "wait"):
                    self.assertEqual(state(desk), before)
            twin = done_again(desk.text)
            self.assertEqual(state(twin), state(desk))
            for line in ASKED:
                self.same(twin.say(line), desk.say(line))
        self.assertGreater(refused, 100)

    def test_any_one_sign_changed_is_refused_or_the_last_row_left_out(self):
        lines = ("open 2 2 2", "call 0 2", "frame 2 3", "rate 0 1 2")
        text = written(lines)
        for place in range(len(text)):
            for sign in "0123456789 \n\r\tacx~\u0130\U0010ffff":
                changed = text[:place] + sign + text[place + 1:]
                if changed == text:
                    continue
                if place == len(text) - 1:
                    self.same(lines_of(changed), lines[:3])
                    self.same(done_again(changed).text, written(lines[:3]))
                else:
                    self.assertRaises(BadStore, lines_of, changed)
                    self.assertRaises(BadStore, done_again, changed)

    def test_what_can_not_be(self):
        for lines in (("call 0 0",), ("open 0 1 1",), ("open 1 1 1", "call 0 0", "call 0 0"), ("show",), ("what",), ("",),
                      ("open 1 1 1", "show"), ("open 1 1 1", "end 0"), ("frame 13 1",), ("rate 0 0 1",), ("open  1 1 1",)):
            self.assertEqual(lines_of(written(lines)), lines)
            self.refused(BadStore, done_again, written(lines))


class Blocks(Case):
    def test_told_as_lines(self):
        self.same([told_block(2, 2), told_block(1, 3)], [("0 4 0", "2 0 1", "1 1"), ("0 6 0", "2 2")])
        for gates in range(1, 5):
            for middle in range(1, 10):
                if middle >= 2 * gates - 1:
                    self.refused(BadNet, told_block, middle, gates)
                else:
                    calls, last = blocking_row(middle, gates)
                    rows = [tuple(int(word) for word in line.split()) for line in told_block(middle, gates)]
                    self.same(rows, list(calls) + [last])
                    # Put so, they do block.
                    net = Clos(middle, gates, 3)
                    for call in rows[:-1]:
                        net.put_by(*call)
                    self.refused(Blocked, net.put, *rows[-1])
