"""Points 35 and 37 of the document: what is safe, what is passed, and papers that are trusted."""

import copy
import unittest

from keeproom.errors import CannotKeep, KeeproomError, NothingPossible, NotItsTurn, PapersError, RowError
from keeproom.papers import check, papers
from keeproom.plants import Plant
from keeproom.rooms import Room, resume
from tests.busyrooms import RoomTest, all_of
from tests.games import number_after, orders_of
from tests.oracles import circling, place, row_of, saying, trap

AB = ("a", "b")
NO_RECORDS = (("c", "1"), ("", "1"), ("A", "1"), ("a", ""), ("a", "-0"), ("a", "6/4"), ("b", "1.5"), ("b", "x"))


class SafeTest(RoomTest):
    def test_records_that_lead_to_the_rooms_nodes(self):
        room = Room(Plant(AB, [trap()], ("is(b)",)), orders_of(never=(0,)))
        room.hear(row_of("a"))
        self.assertEqual(room.safe(), [("a", "0")])
        room.order(orders_of())
        self.assertEqual(room.safe(), [("a", "0"), ("b", "0")])

    def test_name_by_name_and_position_by_position(self):
        for names in (AB, ("b", "a")):
            room = Room(Plant(names, [circling(AB)], ("now",)), orders_of())
            room.hear([("a", "1/2")])
            self.assertEqual(room.safe(), [(name, text) for name in names for text in ("-1/2", "1/2", "3/2")])
        device = [place(False, 0, ("a", 0, 1, (0,))), place(True, 1, ("a", 2, 2, (0, 1))),
                  place(False, 2, ("a", 4, 3, (0, 2))),
                  place(True, 2, ("a", 4, 0, ()), ("a", 0, 0, ()), ("a", 2, 0, ()), ("a", 3, 0, ()))]
        room = Room(Plant(("a",), [device], ()), orders_of())
        room.hear([("a", "1"), ("a", "2"), ("a", "4")])
        self.assertEqual(room.safe(), [("a", "0"), ("a", "5/2"), ("a", "4"), ("a", "5")])

    def test_records_that_may_not_be_made_are_not_safe(self):
        plant = Plant(AB, [saying("a", "a"), saying("a", "ab"), saying("ab", "b")], ())
        for devices, word, safe in (((0,), "a", "a"), ((1,), "a", "ab"), ((0, 1), "a", "a"), ((1, 2), "a", "b"),
                                    ((2,), "b", "b"), ((0, 2), "b", "b"), ((1, 2), "b", "b")):
            room = Room(plant, orders_of((1,)))
            room.hear(row_of(word))
            room.order(orders_of(devices))
            self.assertEqual(room.safe(), [(name, "0") for name in safe])

    def test_a_stuck_room_has_nothing_safe(self):
        # The only move of its node leads back to itself, and it is not of a record that may be made.
        plant = Plant(AB, [saying("a", "a"), saying("a", "b")], ())
        room = resume(plant, {"place": number_after(plant, "a"), "numbers": (), "orders": orders_of((0, 1)), "turn": 0,
                              "since": 0})
        self.assertEqual(room.state()["left"], (0, 1))
        self.assertEqual(room.safe(), [])

    def test_no_assumed_device_is_left(self):
        room = Room(Plant(AB, [saying("a", "a"), circling(AB)], ()), orders_of())
        room.hear(row_of("b"))
        self.assertEqual((room.state()["left"], room.state()["possible"]), ((), (1,)))
        self.assertEqual(room.safe(), [])

    def test_where_the_orders_cannot_be_kept(self):
        # The node itself is bad, but the records from it lead to nodes that are the room's, or to others.
        plant = Plant(AB, [saying("ab", "ab")], ("is(b)", "is(a)"))
        room = Room(plant, orders_of())
        room.hear(row_of("b"))
        kept = room.kept()
        room = resume(plant, {**kept, "orders": orders_of((0,), (0,), (), ())})
        self.assertEqual((room.state()["can"], room.safe()), (False, []))
        plant = Plant(AB, [saying("a", "ab")], ("is(a)", "is(b)"))
        for never, safe in (((0,), []), ((1,), [("a", "0"), ("a", "1"), ("a", "2")])):
            room = resume(plant, {"place": number_after(plant, "a"), "numbers": ("1",), "orders": orders_of(never=never),
                                  "turn": 0, "since": 0})
            self.assertEqual((room.state()["can"], room.safe()), (never == (1,), safe))

    def test_a_bad_node_from_which_records_are_safe(self):
        # The question answers at the first record alone: that node is bad, and no other one.
        plant = Plant(AB, [saying("a", "ab")], ("if(before(now),nothing,now)",))
        room = resume(plant, {"place": number_after(plant, "a"), "numbers": ("1",), "orders": orders_of(never=(0,)),
                              "turn": 0, "since": 0})
        self.assertIs(room.state()["can"], False)
        self.assertEqual(room.safe(), [(name, text) for name in AB for text in ("0", "1", "2")])

    def test_out_of_turn(self):
        room = Room(Plant(AB, [circling(AB)], ()), orders_of())
        self.assert_unchanged(NotItsTurn, room, room.safe)
        room.hear(row_of("aa"))
        self.assert_unchanged(NotItsTurn, room, room.safe)
        room = Room(Plant(AB, [saying("a", "a")], ()), orders_of())
        room.hear(row_of("ba"))
        self.assert_unchanged(NotItsTurn, room, room.safe)

    def test_nothing_is_changed_and_lists_are_new(self):
        room = Room(Plant(AB, [circling(AB)], ("now",)), orders_of())
        room.hear(row_of("a"))
        before = all_of(room)
        told = room.safe()
        self.assertEqual([record.__class__ for record in told], [tuple] * 6)
        told.clear()
        self.assertEqual(len(room.safe()), 6)
        self.assertEqual(all_of(room), before)


class PassTest(RoomTest):
    def room(self, since):
        """A room that waits for b since so many records, at its turn."""
        room = Room(Plant(AB, [saying("a", "ab")], ("is(b)",)), orders_of(again=(0,)))
        room.hear(row_of("a" * since))
        self.assertEqual((room.kept()["since"], room.state()["mine"]), (since, True))
        return room

    def test_the_count_and_the_patience(self):
        for since in (1, 3, 5):
            room = self.room(since)
            own = room.move()
            self.assertEqual(own[0], "b")
            for patience in range(8):
                for record in (("a", "7"), ("a", "0"), ("b", "-3")):
                    passed = room.pass_by(record, patience)
                    self.assertEqual(passed, record if since < patience else own, (since, patience, record))

    def test_patience_0(self):
        # Even where the goal is met just now, so that the count is 0 at once.
        room = Room(Plant(AB, [circling(AB)], ("now", "is(b)")), orders_of(again=(0,)))
        room.hear(row_of("aab"))
        self.assertEqual(room.kept()["since"], 0)
        self.assertEqual(room.pass_by(("b", "9"), 0), room.move())
        self.assertEqual(room.pass_by(("b", "9"), 1), ("b", "9"))
        self.assertNotEqual(room.move(), ("b", "9"))

    def test_no_goals_are_met_at_once(self):
        room = Room(Plant(AB, [circling(AB)], ()), orders_of())
        room.hear(row_of("abaab"))
        for record in (("a", "5"), ("b", "1/3")):
            self.assertEqual(room.pass_by(record, 1), record)
            self.assertEqual(room.pass_by(record, 0), ("a", "0"))

    def test_unsafe_records(self):
        room = Room(Plant(AB, [trap()], ("is(b)",)), orders_of(never=(0,)))
        room.hear(row_of("a"))
        for patience in (0, 1, 99):
            self.assertEqual(room.pass_by(("b", "1"), patience), ("a", "0"))
        self.assertEqual(room.pass_by(("a", "5"), 1), ("a", "5"))
        # A record that an assumed device does not allow.
        room = Room(Plant(AB, [saying("a", "a"), saying("a", "ab")], ()), orders_of((0, 1)))
        room.hear(row_of("a"))
        self.assertEqual(room.pass_by(("b", "1"), 99), ("a", "0"))
        room.order(orders_of((1,)))
        self.assertEqual(room.pass_by(("b", "1"), 99), ("b", "1"))

    def test_the_position_of_the_number_counts(self):
        device = [place(False, 0, ("a", 0, 1, (0,))), place(True, 1, ("b", 2, 0, ()))]
        room = Room(Plant(AB, [device], ()), orders_of())
        room.hear([("a", "5")])
        for record, is_safe in ((("b", "11/2"), True), (("b", "99"), True), (("b", "5"), False), (("b", "9/2"), False),
                                (("a", "9"), False)):
            self.assertEqual(room.pass_by(record, 9), record if is_safe else ("b", "6"))

    def test_elements_that_are_no_records_come_first(self):
        room = self.room(1)
        gone = Room(Plant(AB, [saying("a", "a")], ("is(b)",)), orders_of())
        gone.hear(row_of("b"))
        theirs = Room(Plant(AB, [circling(AB)], ()), orders_of())
        for one in (room, gone, theirs):
            for record in NO_RECORDS:
                for patience in (0, 9):
                    self.assertEqual(self.assert_unchanged(RowError, one, one.pass_by, record, patience).at, 0)

    def test_it_raises_what_move_raises(self):
        room = Room(Plant(AB, [trap()], ("is(b)",)), orders_of(never=(0,)))
        for word, error in (("", NotItsTurn), ("b", NothingPossible), ("bb", NotItsTurn), ("ab", NotItsTurn),
                            ("aba", CannotKeep), ("aa", NotItsTurn)):
            twin = room.twin()
            twin.hear(row_of(word))
            for record in (("a", "1"), ("b", "1")):
                for patience in (0, 99):
                    self.assert_unchanged(error, twin, twin.pass_by, record, patience)

    def test_also_where_the_record_would_be_passed(self):
        plant = Plant(AB, [saying("a", "ab")], ("if(before(now),nothing,now)",))
        room = resume(plant, {"place": number_after(plant, "a"), "numbers": ("1",), "orders": orders_of(never=(0,)),
                              "turn": 0, "since": 0})
        self.assertIn(("b", "1"), room.safe())
        with self.assertRaises(CannotKeep):
            room.pass_by(("b", "1"), 99)

    def test_it_is_not_heard(self):
        room = self.room(3)
        before = all_of(room)
        room.pass_by(("a", "1"), 9)
        room.pass_by(("a", "1"), 0)
        self.assertEqual(all_of(room), before)
        self.assertEqual(room.pass_by(("a", "1"), 9).__class__, tuple)


def other_papers(plant, orders):
    """Papers that hold, and move otherwise: by the last move at each node where any move will do."""
    given = papers(plant, orders)
    for at in range(len(given["wins"])):
        for goal in range(len(given["good"][at])):
            rank, promise, move = given["good"][at][goal]
            for other in range(9, move, -1):
                given["good"][at][goal] = (rank, promise, other)
                if check(plant, orders, given) is None:
                    break
                given["good"][at][goal] = (rank, promise, move)
    return given


class TrustTest(RoomTest):
    def room(self):
        plant = Plant(AB, [circling(AB)], ("is(a)", "is(b)"))
        orders = orders_of(again=(0, 1))
        return Room(plant, orders), plant, orders

    def test_it_moves_by_them(self):
        room, plant, orders = self.room()
        given = other_papers(plant, orders)
        self.assertIsNone(check(plant, orders, given))
        room.hear(row_of("b"))
        own = room.move()
        self.assertIsNone(room.trust(given))
        # There is one number at that node, so moves 0 to 2 are of a, by position.
        self.assertEqual((own, room.move()), (("a", "0"), ("a", "2")))
        self.assertEqual(room.play(), ("a", "2"))
        room.hear(row_of("a"))
        self.assertEqual((room.kept()["turn"], room.move()), (1, ("b", "2")))

    def test_until_orders_are_put_in_force(self):
        room, plant, orders = self.room()
        room.hear(row_of("b"))
        own = room.move()
        room.trust(other_papers(plant, orders))
        self.assertNotEqual(room.move(), own)
        room.order(orders)
        self.assertEqual(room.move(), own)

    def test_until_other_papers_are_trusted(self):
        room, plant, orders = self.room()
        room.hear(row_of("b"))
        own = room.move()
        room.trust(other_papers(plant, orders))
        room.trust(papers(plant, orders))
        self.assertEqual(room.move(), own)

    def test_orders_that_are_refused_change_no_papers(self):
        room, plant, orders = self.room()
        room.hear(row_of("b"))
        room.trust(other_papers(plant, orders))
        move = room.move()
        for wrong in (orders_of((1,)), orders_of(()), orders_of(never=(0, 1))):
            with self.assertRaises(KeeproomError):
                room.order(wrong)
            self.assertEqual(room.move(), move)

    def test_turn_and_count_stay(self):
        room, plant, orders = self.room()
        room.hear(row_of("aaaa"))
        before = all_of(room)
        self.assertEqual((room.kept()["turn"], room.kept()["since"]), (1, 2))
        room.trust(other_papers(plant, orders))
        self.assertEqual(all_of(room), before)

    def test_papers_that_do_not_hold(self):
        room, plant, orders = self.room()
        room.hear(row_of("b"))
        move = room.move()
        for key, at, value in (("wins", 0, False), ("wins", 2, False), ("good", 1, [(0, 0, 9), (0, 0, 9)]),
                               ("good", 2, [])):
            given = papers(plant, orders)
            given[key][at] = value
            self.assertIsNotNone(check(plant, orders, given))
            self.assert_unchanged(PapersError, room, room.trust, given)
            self.assertEqual(room.move(), move)
        # Papers of other orders.
        plant = Plant(AB, [trap()], ("is(b)",))
        room = Room(plant, orders_of(never=(0,)))
        self.assert_unchanged(PapersError, room, room.trust, papers(plant, orders_of()))
        room.order(orders_of())
        self.assert_unchanged(PapersError, room, room.trust, papers(plant, orders_of(never=(0,))))
        room.trust(papers(plant, orders_of()))

    def test_lists_that_are_too_long_or_too_short(self):
        room, plant, orders = self.room()
        for key in ("wins", "good", "evil"):
            given = papers(plant, orders)
            given[key].append(given[key][-1])
            self.assert_unchanged(PapersError, room, room.trust, given)
            given = papers(plant, orders)
            given[key].pop()
            self.assert_unchanged(PapersError, room, room.trust, given)
            given = papers(plant, orders)
            given[key].clear()
            self.assert_unchanged(PapersError, room, room.trust, given)
        given = papers(plant, orders)
        for key in given:
            given[key].append(given[key][-1])
        self.assert_unchanged(PapersError, room, room.trust, given)
        self.assert_unchanged(PapersError, room, room.trust, {"wins": [], "good": [], "evil": []})

    def test_refused_papers_leave_those_that_were_trusted(self):
        room, plant, orders = self.room()
        room.hear(row_of("b"))
        room.trust(other_papers(plant, orders))
        move = room.move()
        self.assert_unchanged(PapersError, room, room.trust, {"wins": [], "good": [], "evil": []})
        self.assertEqual(room.move(), move)

    def test_inner_lists_that_are_too_short_or_too_long(self):
        # Where the goals are met, (0, 0, 0) holds, too; then move 0 is told.
        plant = Plant(AB, [circling(AB)], ("now", "now", "now"))
        orders = orders_of(again=(0, 1, 2))
        room = Room(plant, orders)
        given = other_papers(plant, orders)
        room.trust(given)
        room.hear(row_of("a"))
        self.assertEqual((room.kept()["turn"], room.move()), (0, ("b", "2")))
        room.hear(row_of("aaaa"))
        self.assertEqual((room.kept()["turn"], room.move()), (1, ("b", "2")))
        given["good"] = [entries[:1] for entries in given["good"]]
        given["good"][0] = [(9, 0, 0), (9, 0, 0), (9, 0, 0), (9, 9, 9)]
        for evil in given["evil"]:
            evil["far"].clear()
            evil["choice"].append(7)
        self.assertIsNone(check(plant, orders, given))
        room.trust(given)
        self.assertEqual((room.kept()["turn"], room.move()), (1, ("a", "0")))

    def test_the_room_keeps_a_copy(self):
        room, plant, orders = self.room()
        room.hear(row_of("b"))
        given = other_papers(plant, orders)
        before = copy.deepcopy(given)
        room.trust(given)
        self.assertEqual(given, before)
        move = room.move()
        for entries in given["good"]:
            entries[0] = (0, 0, 0)
            entries[1] = (0, 0, 0)
        self.assertEqual(room.move(), move)
        given["good"].clear()
        given["wins"].clear()
        given["evil"].clear()
        self.assertEqual(room.move(), move)
        self.assertEqual(room.twin().move(), move)


if __name__ == "__main__":
    unittest.main()
