"""Point 45 of the document: keeproom/audits.py."""

import unittest
from fractions import Fraction

from keeproom.audits import audit
from keeproom.errors import JournalError
from keeproom.journals import write_journal
from keeproom.plants import Plant
from keeproom.rooms import Room
from tests.busyrooms import busy_rooms
from tests.games import may_be_made, orders_of
from tests.oracles import circling, lucky, place, row_of, saying, trap
from tests.slowrooms import World, possible
from tests.test_replays import with_sums

AB = ("a", "b")


def found(event, unsafe=False, surprise=False, out=()):
    return {"event": event, "unsafe": unsafe, "surprise": surprise, "out": out}


def audited(plant, orders, word):
    """What an audit finds in records with these names after some orders; orders in a list stand among them."""
    events = [("orders", orders)]
    for item in word:
        events.append(("record", item, "1") if isinstance(item, str) else ("orders", item))
    return audit(plant, write_journal(events))


def slow_audit(world, events):
    told = []
    row = []
    for at, event in enumerate(events):
        if event[0] == "orders":
            orders = event[1]
            continue
        before = world.model(row)
        row = row + [(event[1], Fraction(event[2]))]
        after = world.model(row)
        left = set(orders["devices"]) & set(possible(before))
        won = world.rooms(orders)
        is_safe = may_be_made(before, after, orders["devices"]) and world.number(after) in won
        one = found(at, bool(before.mine and left and world.number(before) in won and not is_safe),
                    bool(not before.mine and left and not left & set(possible(after))),
                    tuple(device for device in possible(before) if device not in possible(after)))
        if one["unsafe"] or one["surprise"] or one["out"]:
            told.append(one)
    return told


class AuditTest(unittest.TestCase):
    def test_nothing_is_found(self):
        plant = Plant(AB, [circling(AB)], ("is(a)",))
        self.assertEqual(audited(plant, orders_of(), ""), [])
        self.assertEqual(audited(plant, orders_of(again=(0,)), "abbabab"), [])

    def test_devices_that_go_out(self):
        plant = Plant(AB, [saying("ab", "ab"), saying("a", "ab"), saying("ab", "a")], ())
        self.assertEqual(audited(plant, orders_of(), "aaaa"), [])
        self.assertEqual(audited(plant, orders_of(), "ab"), [found(2, out=(2,))])
        self.assertEqual(audited(plant, orders_of(), "b"), [found(1, out=(1,))])
        self.assertEqual(audited(plant, orders_of(), "abb"), [found(2, out=(2,)), found(3, out=(1,))])
        self.assertEqual(audited(plant, orders_of(), "bb"), [found(1, out=(1,)), found(2, out=(2,))])
        plant = Plant(AB, [saying("ab", "ab"), saying("a", "a"), saying("a", "a")], ())
        self.assertEqual(audited(plant, orders_of(), "bbb"), [found(1, out=(1, 2))])

    def test_unsafe_records(self):
        plant = Plant(AB, [trap()], ("is(b)",))
        self.assertEqual(audited(plant, orders_of(never=(0,)), "aaaa"), [])
        self.assertEqual(audited(plant, orders_of(never=(0,)), "aaab"), [found(4, unsafe=True)])
        # Later on the node is not one of the room's, so nothing is unsafe.
        self.assertEqual(audited(plant, orders_of(never=(0,)), "abab"), [found(2, unsafe=True)])
        self.assertEqual(audited(plant, orders_of(), "abab"), [])

    def test_records_that_an_assumed_device_does_not_allow_are_unsafe(self):
        plant = Plant(AB, [saying("a", "a"), saying("a", "ab")], ())
        self.assertEqual(audited(plant, orders_of((0, 1)), "ab"), [found(2, unsafe=True, out=(0,))])
        self.assertEqual(audited(plant, orders_of((1,)), "ab"), [found(2, out=(0,))])
        self.assertEqual(audited(plant, orders_of((0,)), "ab"), [found(2, unsafe=True, out=(0,))])
        # Where it is out already, it is asked no longer.
        self.assertEqual(audited(plant, orders_of((0, 1)), "abab"), [found(2, unsafe=True, out=(0,))])

    def test_surprises(self):
        plant = Plant(AB, [saying("a", "a"), saying("a", "ab"), saying("ab", "ab")], ())
        self.assertEqual(audited(plant, orders_of((0, 1)), "b"), [found(1, surprise=True, out=(0, 1))])
        self.assertEqual(audited(plant, orders_of((0, 1, 2)), "b"), [found(1, out=(0, 1))])
        self.assertEqual(audited(plant, orders_of((2,)), "b"), [found(1, out=(0, 1))])
        # Only the assumed devices that were possible are asked, and one surprise is enough.
        self.assertEqual(audited(plant, orders_of((0, 1)), "abb"), [
            found(2, unsafe=True, out=(0,)), found(3, surprise=True, out=(1,))])
        self.assertEqual(audited(plant, orders_of((0,)), "bab"), [found(1, surprise=True, out=(0, 1))])

    def test_no_assumed_device_is_possible(self):
        plant = Plant(AB, [saying("a", "a"), circling(AB)], ("is(b)",))
        # Device 0 is out behind b: from there on nothing is unsafe, nor a surprise.
        self.assertEqual(audited(plant, orders_of((0,)), "bbbabab"), [found(1, surprise=True, out=(0,))])

    def test_records_at_the_others_turn_are_not_unsafe_and_at_the_rooms_no_surprise(self):
        plant = Plant(AB, [saying("a", "a")], ("is(b)",))
        self.assertEqual(audited(plant, orders_of(never=(0,)), "b"), [found(1, surprise=True, out=(0,))])
        self.assertEqual(audited(plant, orders_of(never=(0,)), "ab"), [found(2, unsafe=True, out=(0,))])

    def test_by_the_orders_in_force(self):
        plant = Plant(AB, [saying("a", "ab")], ("is(b)", "is(a)"))
        never = orders_of(never=(0,))
        self.assertEqual(audited(plant, orders_of(), ["a", "b", "a", never, "b"]), [found(5, unsafe=True)])
        self.assertEqual(audited(plant, never, ["a", orders_of(), "b", "a", never, "a"]), [])
        self.assertEqual(audited(plant, never, [never, never, "a", never, "b"]), [found(5, unsafe=True)])

    def test_positions_count(self):
        device = [place(False, 0, ("a", 0, 1, (0,))), place(True, 1, ("a", 2, 0, ()), ("a", 1, 0, ()))]
        plant = Plant(("a",), [device], ("nothing",))
        for text, what in (("6", []), ("5", []), ("9/2", [found(2, unsafe=True, out=(0,))])):
            events = [("orders", orders_of()), ("record", "a", "5"), ("record", "a", text)]
            self.assertEqual(audit(plant, write_journal(events)), what)

    def test_journals_are_refused(self):
        plant = Plant(AB, [circling(AB)], ("nothing",))
        for text, what in (("", ("cannot", 0)), ("x", ("cannot", 0)), ("x\n", ("changed", 0)),
                           (with_sums(["o 0 - - -", "h a 1", "h a"]), ("changed", 2)),
                           (with_sums(["o 0 - - -", "h a 1", "o 0 - 0 -"]), ("cannot", 2)),
                           (with_sums(["h a 1"]), ("cannot", 0)), (with_sums(["o 1 - - -"]), ("cannot", 0))):
            with self.assertRaises(JournalError) as caught:
                audit(plant, text)
            self.assertEqual((caught.exception.what, caught.exception.at), what)

    def test_the_rest_is_left_out(self):
        plant = Plant(AB, [saying("a", "a")], ())
        text = with_sums(["o 0 - - -", "h a 1"])
        self.assertEqual(audit(plant, text + "h b 1"), [])
        self.assertEqual(audit(plant, text + with_sums(["o 0 - - -", "h a 1", "h b 1"])[len(text):-1]), [])
        self.assertEqual(len(audit(plant, with_sums(["o 0 - - -", "h a 1", "h b 1"]))), 1)

    def test_more_than_200_events(self):
        plant = Plant(AB, [saying("a", "a")], ())
        self.assertEqual(audit(plant, with_sums(["o 0 - - -"] + ["h a 1"] * 300 + ["h b 1"])),
                         [found(301, surprise=True, out=(0,))])

    def test_random_journals(self):
        seen = {"unsafe": 0, "surprise": 0, "out": 0}
        for parts, plant, room in busy_rooms(lucky(45), 80, 6):
            told = audit(plant, room.journal())
            self.assertEqual(told, slow_audit(World(*parts), events_of(room)))
            for one in told:
                for key in seen:
                    seen[key] += bool(one[key])
        self.assertGreater(min(seen.values()), 10, seen)

    def test_a_room_that_plays_by_itself_is_never_unsafe(self):
        plant = Plant(AB, [trap(), saying("a", "a"), saying("a", "ab")], ("is(b)", "is(a)"))
        for orders in (orders_of((0, 1, 2), (0,), (1,)), orders_of((0, 2), (), (0,)), orders_of((2,), (), (0, 1))):
            room = Room(plant, orders)
            for _ in range(20):
                room.hear(row_of("a"))
                room.play()
            self.assertEqual([one["unsafe"] for one in audit(plant, room.journal()) if one["unsafe"]], [])

    def test_kinds(self):
        plant = Plant(AB, [saying("a", "a")], ())
        told = audited(plant, orders_of(), "b")
        self.assertIs(told.__class__, list)
        self.assertEqual(sorted(told[0]), ["event", "out", "surprise", "unsafe"])
        self.assertEqual([told[0][key].__class__ for key in sorted(told[0])], [int, tuple, bool, bool])
        told = audited(plant, orders_of(), "ab")
        self.assertEqual([told[0][key].__class__ for key in sorted(told[0])], [int, tuple, bool, bool])


def events_of(room):
    """The events of a room's journal, read in another way."""
    events = []
    for line in room.journal().splitlines():
        words = line.split(" ")[:-1]
        if words[0] == "h":
            events.append(("record", words[1], words[2]))
        else:
            told = [tuple(int(digit) for digit in word.strip("-")) for word in words[1:]]
            events.append(("orders", orders_of(*told)))
    return events


if __name__ == "__main__":
    unittest.main()
