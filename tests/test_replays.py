"""Points 41 to 44 of the document: keeproom/replays.py, and the journals of rooms."""

import copy
import unittest

from keeproom.errors import JournalError, JournalFull
from keeproom.journals import write_journal
from keeproom.papers import papers
from keeproom.plants import Plant
from keeproom.replays import read_journal, replay
from keeproom.rooms import Room
from tests.busyrooms import busy_rooms
from tests.games import orders_of
from tests.oracles import circling, lucky, row_of, saying, trap
from tests.slowrooms import outcome
from tests.test_resume import told_by

AB = ("a", "b")


def with_sums(texts):
    """A journal with these texts, whatever they are, and the sums that belong to them."""
    lines = []
    total = 1
    for text in texts:
        for character in text:
            total = (total * 256 + ord(character)) % 65521
        lines.append(f"{text} {total}\n")
    return "".join(lines)


def example():
    """A plant, a room that has heard and played something, and its events."""
    plant = Plant(AB, [saying("a", "ab"), circling(AB)], ("is(a)", "is(b)"))
    room = Room(plant, orders_of((0, 1), (), (0, 1), ()))
    room.hear([("a", "1/2")])
    room.play()
    room.order(orders_of((1,), (), (1,), (0,)))
    room.hear([("b", "-7"), ("b", "12")])
    events = [("orders", orders_of((0, 1), (), (0, 1), ())), ("record", "a", "1/2"), ("record", "a", "-1/2"),
              ("orders", orders_of((1,), (), (1,), (0,))), ("record", "b", "-7"), ("record", "b", "12")]
    return plant, room, events


class JournalTest(unittest.TestCase):
    def test_the_journal_of_a_room(self):
        plant, room, events = example()
        self.assertEqual(room.journal(), write_journal(events))
        self.assertEqual(read_journal(plant, room.journal()), (events, 0))

    def test_journal_changes_nothing(self):
        _, room, _ = example()
        before = (room.state(), room.kept(), room.journal())
        self.assertEqual((room.state(), room.kept(), room.journal()), before)

    def test_only_what_was_done_is_an_event(self):
        plant, room, events = example()
        for call in (lambda: room.hear([("c", "1")]), lambda: room.order(orders_of((5,))), lambda: room.trust(
                {"wins": [], "good": [], "evil": []}), lambda: room.order(orders_of(())), room.play):
            self.assertEqual(outcome(call)[0], "raised")
        room.hear([])
        room.twin().hear(row_of("a"))
        room.would(orders_of())
        self.assertEqual(room.journal(), write_journal(events))


class ReadTest(unittest.TestCase):
    def refused(self, plant, text):
        found = []
        for read in (read_journal, replay):
            with self.assertRaises(JournalError, msg=repr(text)) as caught:
                read(plant, text)
            self.assertIs(caught.exception.__class__, JournalError)
            found.append((caught.exception.what, caught.exception.at))
        self.assertEqual(found[0], found[1])
        return found[0]

    def test_cut_off_anywhere(self):
        plant, room, events = example()
        text = room.journal()
        first = text.index("\n") + 1
        for end in range(len(text) + 1):
            cut = text[:end]
            whole = cut.count("\n")
            if end < first:
                self.assertEqual(self.refused(plant, cut), ("cannot", 0))
            else:
                rest = len(cut) - cut.rindex("\n") - 1
                self.assertEqual(read_journal(plant, cut), (events[:whole], rest))

    def test_any_rest_is_left_out(self):
        plant, room, events = example()
        for rest in ("", " ", "h", "h a 1", "h a 1 1", "nonsense", "\r", "\u00e9\u4e00", "o 0 - - - 20039"):
            self.assertEqual(read_journal(plant, room.journal() + rest), (events, len(rest)))

    def test_one_character_is_replaced(self):
        plant, room, _ = example()
        text = room.journal()
        lines = text.split("\n")
        start = 0
        for number, line in enumerate(lines[:-1]):
            for at in range(len(line.rpartition(" ")[0])):
                others = set("abho0123456789-/ x\t\r\u00e9") | {chr(ord(line[at]) + 65521), chr(ord(line[at]) ^ 1)}
                for other in others - {line[at], "\n"}:
                    changed = text[:start + at] + other + text[start + at + 1:]
                    self.assertEqual(self.refused(plant, changed), ("changed", number), changed)
            start += len(line) + 1

    def test_sums_that_are_changed(self):
        plant, room, events = example()
        lines = room.journal().split("\n")[:-1]
        for number, line in enumerate(lines):
            text, _, total = line.rpartition(" ")
            for wrong in ("", "0", "0" + total, "+" + total, total + "0", "-" + total, " " + total, total + " ",
                          str(int(total) + 65521), str(int(total) + 1), "\u0661", total + "\r", "x"):
                changed = lines[:number] + [f"{text} {wrong}"] + lines[number + 1:]
                self.assertEqual(self.refused(plant, "".join(one + "\n" for one in changed)), ("changed", number))

    def test_lines_that_are_left_out_or_swapped(self):
        plant, room, _ = example()
        lines = room.journal().splitlines(keepends=True)
        for number in range(len(lines) - 1):
            self.assertEqual(self.refused(plant, "".join(lines[:number] + lines[number + 1:])), ("changed", number))
            swapped = lines[:number] + [lines[number + 1], lines[number]] + lines[number + 2:]
            self.assertEqual(self.refused(plant, "".join(swapped)), ("changed", number))
            self.assertEqual(self.refused(plant, "".join(lines[:number] + ["\n"] + lines[number:])), ("changed", number))

    def test_lines_of_another_form_with_the_right_sums(self):
        plant = Plant(AB, [circling(AB)], ("is(a)",))
        for wrong in ("", " ", "h", "h ", "h a", "h a ", "h  1", "h a  1", " h a 1", "h a 1 ", "h a 1 1", "h c 1", "H a 1",
                      "ha 1", "h a -0", "h a 1.5", "h a 6/4", "h a x", "h ab 1", "o", "o ", "o 0 - -", "o 0 - - - -",
                      "o 0 - - ", "o 0 - - x", "o 0 - - --", "o 0 - -  -", "o -0 - - -", "o 0- - - -", "o 0,1 - - -",
                      "o \u0661 - - -", "O 0 - - -", "o a - - -", "p 0 - - -", "o 0 - - -1", "o 0 - - \u00b2", "h A 1"):
            self.assertEqual(self.refused(plant, with_sums([wrong])), ("changed", 0), wrong)
            self.assertEqual(self.refused(plant, with_sums(["o 0 - - -", "h a 1", wrong, "h a 1"])), ("changed", 2), wrong)

    def test_the_first_line_that_is_changed_comes_before_events_that_cannot_be(self):
        plant = Plant(AB, [circling(AB)], ("is(a)",))
        self.assertEqual(self.refused(plant, with_sums(["h a 1", "h a 2", "no", "h a 3", "no"])), ("changed", 2))
        self.assertEqual(self.refused(plant, with_sums(["o 9 - - -", "h a 2"]) + "h a 1 1\n"), ("changed", 2))

    def test_names_and_numbers_of_records(self):
        names = ("h", "o", "abcdefgh")
        plant = Plant(names, [circling(names)], ())
        events = [("orders", orders_of())] + [("record", name, text) for name in names for text in (
            "0", "-3", "7/2", "-1/3", "9" * 3999, "-" + "8" * 3999 + "/" + "8" * 3998 + "7")]
        self.assertEqual(read_journal(plant, write_journal(events)), (events, 0))
        self.assertEqual(self.refused(plant, with_sums(["o 0 - - -", "h a 1"])), ("changed", 1))

    def test_no_events(self):
        plant = Plant(AB, [circling(AB)], ())
        for text in ("", "o 0 - - - 20039", "h a 1", "rest"):
            self.assertEqual(self.refused(plant, text), ("cannot", 0))
        self.assertEqual(self.refused(plant, "\n"), ("changed", 0))

    def test_the_first_event_is_of_orders(self):
        plant = Plant(AB, [circling(AB)], ())
        self.assertEqual(self.refused(plant, with_sums(["h a 1"])), ("cannot", 0))
        self.assertEqual(self.refused(plant, with_sums(["h a 1", "o 0 - - -"])), ("cannot", 0))
        self.assertEqual(read_journal(plant, with_sums(["o 0 - - -"])), ([("orders", orders_of())], 0))

    def test_orders_that_are_refused(self):
        plant = Plant(AB, [circling(AB), circling(AB)], ("is(a)", "nothing"))
        for text in ("o 2 - - -", "o 10 - - -", "o 00 - - -", "o 0 2 - -", "o 0 - 9 -", "o 0 - - 11", "o 0123456789 - - -",
                     "o 0 - 10 -"):
            self.assertEqual(self.refused(plant, with_sums([text])), ("cannot", 0), text)
            self.assertEqual(self.refused(plant, with_sums(["o 01 - - -", "h a 1", text])), ("cannot", 2), text)
        for text in ("o 01 - 0 01", "o 1 1 - -", "o 0 - - 01"):
            self.assertEqual(len(read_journal(plant, with_sums(["o 01 - - -", "h a 1", text]))[0]), 3)

    def test_orders_that_cannot_be_put_in_force(self):
        plant = Plant(AB, [saying("a", "a"), saying("ab", "ab")], ("nothing", "is(b)"))
        for text in ("o - - - -", "o 0 - 0 -", "o 1 1 - -", "o - - 0 -", "o 01 1 - -"):
            self.assertEqual(self.refused(plant, with_sums([text])), ("cannot", 0), text)
            self.assertEqual(self.refused(plant, with_sums(["o 0 - - -", text])), ("cannot", 1), text)
        # Whether they can be kept is asked where they stand.
        self.assertEqual(self.refused(plant, with_sums(["o 0 - - -", "h b 1", "o 0 - - -"])), ("cannot", 2))
        self.assertEqual(len(read_journal(plant, with_sums(["o 0 - - -", "h b 1", "o 1 - - -"]))[0]), 3)
        plant = Plant(AB, [trap()], ("is(b)",))
        self.assertEqual(len(read_journal(plant, with_sums(["o 0 0 - -", "h a 1", "o 0 0 - -"]))[0]), 3)
        self.assertEqual(self.refused(plant, with_sums(["o 0 0 - -", "h a 1", "h b 1", "h a 1", "o 0 0 - -", "o 9 - - -"])),
                         ("cannot", 4))

    def test_records_may_come_whoever_may_make_them(self):
        plant = Plant(AB, [saying("a", "a")], ())
        text = with_sums(["o 0 - - -"] + ["h b 1"] * 3)
        self.assertEqual(len(read_journal(plant, text)[0]), 4)
        self.assertEqual(replay(plant, text).state()["left"], ())

    def test_more_than_200_events(self):
        plant = Plant(AB, [circling(AB)], ("is(a)",))
        text = with_sums(["o 0 - - -"] + ["h a 1"] * 400)
        self.assertEqual(len(read_journal(plant, text + "rest")[0]), 401)
        text = with_sums(["o 0 - - -"] + ["h a 1"] * 199)
        self.assertEqual(replay(plant, text).journal(), text)

    def test_random_journals(self):
        for _, plant, room in busy_rooms(lucky(44), 60, 8):
            text = room.journal()
            events, rest = read_journal(plant, text)
            self.assertEqual((write_journal(events), rest), (text, 0))
            again = replay(plant, text)
            self.assertEqual((again.journal(), again.kept(), again.state()), (text, room.kept(), room.state()))
            self.assertEqual(outcome(again.move), outcome(room.move))

    def test_what_is_returned(self):
        plant, room, events = example()
        told = read_journal(plant, room.journal())
        self.assertEqual([told.__class__, told[0].__class__, told[1].__class__], [tuple, list, int])
        self.assertEqual({event.__class__ for event in told[0]}, {tuple})
        for event in told[0]:
            if event[0] == "orders":
                event[1].clear()
        told[0].clear()
        self.assertEqual(read_journal(plant, room.journal()), (events, 0))


class ReplayTest(unittest.TestCase):
    def test_a_room_for_which_the_events_happened(self):
        plant, room, _ = example()
        again = replay(plant, room.journal())
        self.assertIs(again.__class__, Room)
        self.assertEqual(told_by(again), told_by(room))
        self.assertEqual(again.journal(), room.journal())
        for one in (again, room):
            one.hear(row_of("a"))
            one.play()
        self.assertEqual(again.journal(), room.journal())

    def test_the_papers_are_those_of_the_orders(self):
        plant, room, _ = example()
        cut = room.journal().split("o 1 ")[0]
        room = replay(plant, cut + "h a")
        self.assertEqual(room.state()["orders"], orders_of((0, 1), (), (0, 1), ()))
        room.hear(row_of("a"))
        self.assertEqual((room.kept()["turn"], room.move()[0]), (1, "b"))

    def test_a_full_journal(self):
        plant = Plant(AB, [circling(AB)], ("is(a)",))
        for texts in (["h a 1"] * 199, ["o 0 - 0 -"] * 199, ["h a 1"] * 198 + ["o 0 - - -"]):
            text = with_sums(["o 0 - - -"] + texts)
            room = replay(plant, text)
            self.assertEqual(room.journal(), text)
            with self.assertRaises(JournalFull):
                room.hear(row_of("a"))
        for texts in (["h a 1"] * 200, ["o 0 - 0 -"] * 200, ["h a 1"] * 300, ["h a 1"] * 199 + ["o 0 - - -"]):
            with self.assertRaises(JournalFull) as caught:
                replay(plant, with_sums(["o 0 - - -"] + texts))
            self.assertIs(caught.exception.__class__, JournalFull)

    def test_journals_are_refused_before(self):
        plant = Plant(AB, [circling(AB)], ("nothing",))
        many = ["o 0 - - -"] + ["h a 1"] * 250
        for texts, expected in ((many + ["no"], ("changed", 251)), (many + ["o 0 - 0 -"], ("cannot", 251)),
                                (["h a 1"] * 250, ("cannot", 0))):
            with self.assertRaises(JournalError) as caught:
                replay(plant, with_sums(texts))
            self.assertEqual((caught.exception.what, caught.exception.at), expected)

    def test_what_is_trusted_is_no_event(self):
        plant, room, _ = example()
        before = copy.deepcopy(room.journal())
        room.trust(papers(plant, orders_of((1,), (), (1,), (0,))))
        self.assertEqual(room.journal(), before)


if __name__ == "__main__":
    unittest.main()
