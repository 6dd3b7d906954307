"""Points 31 to 33, 36 and 41 of the document: making rooms, hearing, moving, and orders that are turned."""

import copy
import unittest

from keeproom.errors import CannotKeep, JournalFull, NothingPossible, NotItsTurn, OrdersError, RowError
from keeproom.journals import write_journal
from keeproom.plants import Plant
from keeproom.rooms import Room
from tests.busyrooms import RoomTest, all_of
from tests.games import KEYS, orders_of
from tests.oracles import circling, place, row_of, saying, trap

AB = ("a", "b")


def free_room(orders=None):
    """A room beside one device that allows all."""
    return Room(Plant(AB, [circling(AB)], ("is(a)", "is(b)", "nothing")), orders or orders_of())


def trapped():
    """A room that never may let b be said, beside the trap."""
    return Room(Plant(AB, [trap()], ("is(b)", "is(a)")), orders_of(never=(0,)))


class MakingTest(RoomTest):
    def test_a_room_that_has_heard_nothing(self):
        room = free_room(orders_of((0,), (2,), (0, 1), (0,)))
        self.assertEqual(room.state(), {
            "mine": False, "possible": (0,), "left": (0,), "answers": (None, None, None), "can": True,
            "orders": orders_of((0,), (2,), (0, 1), (0,))})
        self.assertEqual(room.kept(), {"place": 0, "numbers": (), "orders": orders_of((0,), (2,), (0, 1), (0,)),
                                       "turn": 0, "since": 0})
        self.assertEqual(room.journal(), write_journal([("orders", orders_of((0,), (2,), (0, 1), (0,)))]))

    def test_refused_orders_come_first(self):
        plant = Plant(AB, [circling(AB)], ("nothing",))
        for key in KEYS:
            for numbers in ((1,), (-1,), (0, 0), (1, 0)):
                with self.assertRaises(OrdersError):
                    Room(plant, {**orders_of((), (), (0,), ()), key: numbers})

    def test_no_device_is_assumed(self):
        with self.assertRaises(NothingPossible):
            Room(Plant(AB, [circling(AB)], ()), orders_of(()))
        # Then it does not matter that the node is not one of the room's.
        with self.assertRaises(NothingPossible):
            Room(Plant(AB, [circling(AB)], ("nothing",)), orders_of((), (), (0,), ()))

    def test_orders_that_cannot_be_kept(self):
        plant = Plant(AB, [saying("ab", "a"), saying("a", "b")], ("nothing", "is(b)"))
        for orders in (orders_of(again=(0,)), orders_of(never=(1,)), orders_of((0, 1)), orders_of((1,), (1,)),
                       orders_of(again=(0,), promises=(1,)) | {"promises": ()}):
            with self.assertRaises(CannotKeep):
                Room(plant, orders)
        for orders in (orders_of(), orders_of((1,)), orders_of(again=(1,), promises=(1,)), orders_of((1,), (), (1,))):
            self.assertIs(Room(plant, orders).state()["can"], True)

    def test_the_room_keeps_copies(self):
        devices, orders = [saying("a", "ab")], orders_of((0,), (), (1,), ())
        room = Room(Plant(AB, devices, ("is(a)", "is(b)")), orders)
        before = copy.deepcopy(all_of(room))
        orders["again"] = (0,)
        orders["devices"] = ()
        del orders["never"]
        devices[0].clear()
        self.assertEqual(all_of(room), before)
        room.hear(row_of("a"))
        self.assertEqual(room.move()[0], "b")

    def test_the_listed_methods_stand_in_the_class_itself(self):
        for name in ("__init__", "hear", "state", "move", "play", "safe", "pass_by", "order", "would", "trust",
                     "clashes", "apart", "soonest", "kept", "journal", "twin"):
            self.assertIn(name, vars(Room))
        self.assertEqual(Room.__module__, "keeproom.rooms")


class HearTest(RoomTest):
    def test_what_was_heard_is_told(self):
        plant = Plant(AB, [saying("a", "ab"), saying("ab", "a")], ("is(b)", "now"))
        room = Room(plant, orders_of((0, 1)))
        row = [("a", "5"), ("b", "-1/2"), ("b", "7"), ("a", "1")]
        for end, left in ((0, (0, 1)), (1, (0, 1)), (2, (0,)), (3, ()), (4, ())):
            if end > 0:
                room.hear(row[end - 1:end])
            state = room.state()
            self.assertEqual({key: state[key] for key in ("mine", "possible", "answers")}, plant.look(row[:end]))
            self.assertEqual(state["left"], left)
            self.assertEqual(state["can"], end < 3)
            self.assertEqual(("point", room.kept()["place"], room.kept()["numbers"]), plant.point(row[:end]))

    def test_assumed_devices_alone_are_left(self):
        plant = Plant(AB, [saying("a", "ab"), saying("ab", "a"), saying("b", "b")], ())
        room = Room(plant, orders_of((1,)))
        self.assertEqual((room.state()["possible"], room.state()["left"]), ((0, 1, 2), (1,)))
        room.hear(row_of("b"))
        self.assertEqual((room.state()["possible"], room.state()["left"]), ((1, 2), (1,)))
        room.hear(row_of("b"))
        self.assertEqual((room.state()["possible"], room.state()["left"]), ((2,), ()))

    def test_at_once_or_one_by_one(self):
        row = [("a", "1"), ("b", "2"), ("b", "1/2"), ("a", "3"), ("a", "3")]
        together, single = free_room(orders_of(again=(0, 1))), free_room(orders_of(again=(0, 1)))
        together.hear(row)
        for one in row:
            single.hear([one])
            single.hear([])
        self.assertEqual(all_of(together), all_of(single))

    def test_the_turn_goes_to_the_next_goal_when_it_is_met_before_a_record(self):
        room = free_room(orders_of(again=(0, 1)))
        # a is met behind a, b behind b: but the turn goes on at the next record only.
        for name, turn, since in (("b", 0, 1), ("b", 0, 2), ("a", 0, 3), ("a", 1, 0), ("a", 1, 1), ("b", 1, 2),
                                  ("a", 0, 0), ("a", 1, 0), ("b", 1, 1), ("b", 0, 0), ("b", 0, 1)):
            room.hear(row_of(name))
            self.assertEqual((room.kept()["turn"], room.kept()["since"]), (turn, since))

    def test_one_goal(self):
        room = free_room(orders_of(again=(1,)))
        for name, since in (("a", 1), ("b", 2), ("b", 0), ("a", 0), ("a", 1), ("a", 2)):
            room.hear(row_of(name))
            self.assertEqual((room.kept()["turn"], room.kept()["since"]), (0, since))

    def test_no_goals(self):
        room = free_room()
        for name in "abba":
            room.hear(row_of(name))
            self.assertEqual((room.kept()["turn"], room.kept()["since"]), (0, 0))

    def test_three_goals(self):
        room = Room(Plant(("a", "b", "c"), [circling(("a", "b", "c"))], ("is(c)", "is(a)", "is(b)")),
                    orders_of(again=(0, 1, 2)))
        turns = []
        for name in "cabcabcab":
            room.hear(row_of(name))
            turns.append(room.kept()["turn"])
        self.assertEqual(turns, [0, 1, 2, 0, 1, 2, 0, 1, 2])

    def test_rows_are_refused_whole(self):
        room = free_room(orders_of(again=(0, 1)))
        room.hear(row_of("ab"))
        for row, at in (([("c", "1")], 0), ([("a", "x")], 0), ([("a", "1"), ("b", "-0")], 1),
                        ([("a", "1"), ("b", "2"), ("", "1"), ("a", "1")], 2), ([("a", "6/4"), ("c", "1")], 0)):
            self.assertEqual(self.assert_unchanged(RowError, room, room.hear, row).at, at)

    def test_rows_are_as_they_were(self):
        row = [("a", "1"), ("b", "2")]
        free_room().hear(row)
        self.assertEqual(row, [("a", "1"), ("b", "2")])
        self.assertIsNone(free_room().hear(row))

    def test_a_long_number(self):
        room = Room(Plant(("a",), [circling()], ("now",)), orders_of())
        text = "-" + "7" * 3998 + "/" + "2" * 3999
        room.hear([("a", text)])
        self.assertEqual((room.state()["answers"], room.kept()["numbers"]), ((text,), (text,)))
        self.assertIn(f"\nh a {text} ", room.journal())


class FullTest(RoomTest):
    def full(self, events):
        """A room with this many events."""
        room = free_room(orders_of(again=(0, 1)))
        room.hear(row_of("ab" * 100)[:events - 1])
        self.assertEqual(room.journal().count("\n"), events)
        return room

    def test_hear(self):
        room = self.full(199)
        self.assert_unchanged(JournalFull, room, room.hear, row_of("ab"))
        self.assert_unchanged(JournalFull, room, room.hear, row_of("a" * 300))
        room.hear(row_of("b"))
        self.assertEqual(room.journal().count("\n"), 200)
        self.assert_unchanged(JournalFull, room, room.hear, row_of("a"))
        room.hear([])
        with self.assertRaises(JournalFull):
            free_room().hear(row_of("a" * 200))
        free_room().hear(row_of("a" * 199))

    def test_rows_are_refused_before(self):
        room = self.full(200)
        for row, at in (([("c", "1")], 0), ([("a", "1"), ("b", "")], 1)):
            self.assertEqual(self.assert_unchanged(RowError, room, room.hear, row).at, at)

    def test_play(self):
        room = self.full(200)
        self.assertIs(room.state()["mine"], True)
        self.assertEqual(room.move()[0], "a")
        self.assert_unchanged(JournalFull, room, room.play)
        room = self.full(199)
        self.assert_unchanged(NotItsTurn, room, room.play)
        room.hear(row_of("a"))
        self.assert_unchanged(JournalFull, room, room.play)

    def test_order(self):
        room = self.full(199)
        room.order(orders_of())
        self.assertEqual(room.journal().count("\n"), 200)
        self.assert_unchanged(JournalFull, room, room.order, orders_of())
        self.assertIs(room.would(orders_of()), True)
        self.assert_unchanged(OrdersError, room, room.order, orders_of((1,)))
        self.assert_unchanged(NothingPossible, room, room.order, orders_of(()))
        self.assert_unchanged(CannotKeep, room, room.order, orders_of(again=(2,)))

    def test_all_else_goes_on(self):
        room = self.full(200)
        self.assertEqual(room.pass_by(("a", "1"), 0), room.move())
        self.assertEqual(len(room.safe()), 6)
        self.assertEqual(room.twin().journal(), room.journal())


class MoveTest(RoomTest):
    def test_the_move_of_the_goal_whose_turn_it_is(self):
        room = free_room(orders_of(again=(0, 1)))
        for turn, name in ((0, "a"), (0, "a")):
            twin = room.twin()
            twin.hear(row_of("b"))
            self.assertEqual((twin.kept()["turn"], twin.move()[0]), (turn, name))
        # Behind a the first goal is met, so the room makes nothing of it, but waits for nothing either.
        room.hear(row_of("ab"))
        self.assertEqual((room.kept()["turn"], room.kept()["since"]), (1, 0))
        room.hear(row_of("a"))
        self.assertEqual((room.kept()["turn"], room.move()[0]), (0, "a"))
        room.hear(row_of("a"))
        self.assertEqual(room.kept()["turn"], 1)
        room.hear(row_of("a"))
        self.assertEqual(room.move()[0], "b")

    def test_the_number_for_the_position(self):
        # The room has to answer with a greater number, with the same one, or with a lower one.
        for position, text in ((0, "4"), (1, "5"), (2, "6")):
            device = [place(False, 0, ("a", 0, 1, (0,))), place(True, 1, ("b", position, 0, ()))]
            room = Room(Plant(AB, [device], ()), orders_of())
            room.hear([("a", "5")])
            self.assertEqual(room.move(), ("b", text))
        # Between two numbers it is the half of their sum.
        device = [place(False, 0, ("a", 0, 1, (0,))), place(True, 1, ("a", 2, 2, (0, 1))),
                  place(False, 2, ("b", 2, 3, (0, 2))), place(True, 2, ("b", 2, 0, ()))]
        room = Room(Plant(AB, [device], ()), orders_of())
        room.hear([("a", "1/2")])
        self.assertEqual(room.play(), ("a", "3/2"))
        room.hear([("b", "4/3")])
        self.assertEqual(room.kept()["numbers"], ("1/2", "3/2"))
        self.assertEqual(room.play(), ("b", "1"))

    def test_move_changes_nothing_and_play_is_heard(self):
        room = free_room(orders_of(again=(1,)))
        room.hear(row_of("a"))
        before = all_of(room)
        made = room.move()
        self.assertEqual(made, room.move())
        self.assertEqual(all_of(room), before)
        other = room.twin()
        self.assertEqual(room.play(), made)
        other.hear([made])
        self.assertEqual(all_of(room), all_of(other))
        self.assertEqual(made.__class__, tuple)

    def test_out_of_turn(self):
        room = free_room()
        self.assert_unchanged(NotItsTurn, room, room.move)
        self.assert_unchanged(NotItsTurn, room, room.play)
        room.hear(row_of("aa"))
        self.assert_unchanged(NotItsTurn, room, room.move)
        room.hear(row_of("a"))
        room.play()
        self.assert_unchanged(NotItsTurn, room, room.play)

    def test_records_that_nobody_may_make(self):
        room = trapped()
        # The others say b: no assumed device is possible any more. At their turn it still is not the room's.
        for word, error in (("b", NothingPossible), ("ba", NotItsTurn), ("bab", NothingPossible), ("bb", NotItsTurn)):
            twin = room.twin()
            twin.hear(row_of(word))
            self.assertEqual((twin.state()["left"], twin.state()["can"]), ((), False))
            self.assert_unchanged(error, twin, twin.move)
            self.assert_unchanged(error, twin, twin.play)

    def test_orders_that_can_be_kept_no_longer(self):
        room = trapped()
        room.hear(row_of("ab"))
        self.assertEqual((room.state()["left"], room.state()["can"]), ((0,), False))
        self.assert_unchanged(NotItsTurn, room, room.move)
        room.hear(row_of("a"))
        self.assertEqual((room.state()["left"], room.state()["can"]), ((0,), False))
        self.assert_unchanged(CannotKeep, room, room.move)
        self.assert_unchanged(CannotKeep, room, room.play)

    def test_it_goes_on_where_they_can_be_kept_again(self):
        # b is bad at the moment alone.
        room = Room(Plant(AB, [saying("a", "ab")], ("is(b)",)), orders_of(never=(0,)))
        room.hear(row_of("ab"))
        self.assertIs(room.state()["can"], False)
        room.hear(row_of("a"))
        self.assertIs(room.state()["can"], True)
        self.assertEqual(room.play()[0], "a")

    def test_what_all_assumed_devices_that_are_left_allow(self):
        plant = Plant(("a", "b", "c"), [saying("ab", "ac"), saying("b", "bc"), saying("a", "b")], ())
        room = Room(plant, orders_of((0, 1)))
        room.hear(row_of("b"))
        self.assertEqual(room.move()[0], "c")
        room = Room(plant, orders_of((0, 1)))
        room.hear(row_of("a"))
        self.assertEqual((room.state()["left"], room.move()[0]), ((0,), "a"))


class OrderTest(RoomTest):
    def test_other_orders_are_kept_from_then_on(self):
        room = free_room(orders_of(again=(0,)))
        room.hear(row_of("b"))
        self.assertEqual(room.move()[0], "a")
        self.assertIsNone(room.order(orders_of(again=(1,))))
        self.assertEqual(room.state()["orders"], orders_of(again=(1,)))
        room.hear(row_of("aa"))
        self.assertEqual(room.move()[0], "b")

    def test_turn_and_count_begin_anew(self):
        room = free_room(orders_of(again=(0, 1)))
        room.hear(row_of("aabb"))
        room.hear(row_of("bb"))
        self.assertEqual((room.kept()["turn"], room.kept()["since"]), (0, 2))
        room.hear(row_of("aaaa"))
        self.assertEqual((room.kept()["turn"], room.kept()["since"]), (1, 2))
        place_before = room.kept()["place"]
        room.order(orders_of(again=(0, 1)))
        self.assertEqual((room.kept()["turn"], room.kept()["since"]), (0, 0))
        self.assertEqual(room.kept()["place"], place_before)

    def test_at_any_turn_and_in_the_midst_of_a_play(self):
        room = free_room()
        for name in "abab":
            room.order(orders_of(again=(0, 1)))
            room.order(orders_of(never=(2,)))
            room.hear(row_of(name))
        self.assertEqual(room.journal().count("\n"), 13)
        self.assertEqual([line[0] for line in room.journal().split("\n")[:-1]], list("o" + "ooh" * 4))

    def test_the_questions_are_of_all_records(self):
        plant = Plant(("a",), [circling()], ("times(3,now)",))
        room = Room(plant, orders_of())
        room.hear(row_of("a"))
        self.assertIs(room.would(orders_of(never=(0,))), False)
        room.order(orders_of(again=(0,)))
        room.hear(row_of("aa"))
        self.assertEqual(room.state()["answers"], ("1",))

    def test_what_the_questions_answer_at_this_moment_is_included(self):
        room = Room(Plant(AB, [saying("a", "ab")], ("is(b)",)), orders_of())
        room.hear(row_of("ab"))
        self.assertIs(room.would(orders_of(never=(0,))), False)
        self.assert_unchanged(CannotKeep, room, room.order, orders_of(never=(0,)))
        room.hear(row_of("a"))
        self.assertIs(room.would(orders_of(never=(0,))), True)
        room.order(orders_of(never=(0,)))

    def test_what_was_heard_is_the_same_whatever_is_in_force(self):
        first, second = free_room(orders_of(again=(0,))), free_room(orders_of(again=(0,)))
        for name in "abbab":
            second.order(orders_of(again=(1,)))
            first.hear(row_of(name))
            second.hear(row_of(name))
        second.order(orders_of(again=(0,)))
        self.assertEqual({**first.state(), **{"orders": None}}, {**second.state(), **{"orders": None}})
        self.assertEqual(first.kept()["place"], second.kept()["place"])

    def test_refusals_in_their_order(self):
        room = Room(Plant(AB, [saying("a", "a"), saying("ab", "ab")], ("nothing", "is(b)")), orders_of())
        room.hear(row_of("b"))
        refused = (
            (orders_of((2,)), OrdersError), (orders_of((0,), (), (2,)), OrdersError), (orders_of((1, 0)), OrdersError),
            (orders_of((0,)), NothingPossible), (orders_of(()), NothingPossible),
            (orders_of((0,), (), (0,)), NothingPossible), (orders_of((1,), (), (0,)), CannotKeep),
            (orders_of((0, 1), (1,)), CannotKeep))
        for orders, error in refused:
            self.assert_unchanged(error, room, room.order, orders)
            if error is OrdersError:
                self.assert_unchanged(OrdersError, room, room.would, orders)
            else:
                self.assertIs(room.would(orders), False)
        for orders in (orders_of((1,)), orders_of((0, 1)), orders_of((0, 1), (), (1,))):
            self.assertIs(room.would(orders), True)
            room.twin().order(orders)

    def test_would_changes_nothing(self):
        room = free_room(orders_of(again=(0, 1)))
        room.hear(row_of("aab"))
        before = all_of(room)
        for orders in (orders_of(), orders_of(again=(1,)), orders_of(again=(2,)), orders_of(())):
            room.would(orders)
        self.assertEqual(all_of(room), before)

    def test_copies(self):
        room = free_room()
        orders = orders_of((0,), (), (1,), ())
        before = copy.deepcopy(orders)
        room.order(orders)
        self.assertEqual(orders, before)
        orders["again"] = (0,)
        self.assertEqual(room.state()["orders"], before)
        for told in (room.state(), room.kept()):
            told["orders"]["again"] = (0,)
            told.clear()
        self.assertEqual(room.state()["orders"], before)
        self.assertEqual(room.kept()["orders"], before)
        self.assertTrue(room.journal().startswith("o 0 - - - "))


class StateTest(RoomTest):
    def test_kinds(self):
        room = free_room(orders_of(again=(0,)))
        for word in ("", "a", "b"):
            room.hear(row_of(word))
            state = room.state()
            self.assertEqual(sorted(state), ["answers", "can", "left", "mine", "orders", "possible"])
            self.assertEqual([state[key].__class__ for key in sorted(state)], [tuple, bool, tuple, bool, dict, tuple])
            self.assertEqual({state["orders"][key].__class__ for key in KEYS}, {tuple})
            self.assertEqual(sorted(state["orders"]), sorted(KEYS))

    def test_can_is_by_the_orders_in_force(self):
        room = trapped()
        room.hear(row_of("ab"))
        self.assertIs(room.state()["can"], False)
        room.order(orders_of(again=(0,)))
        self.assertIs(room.state()["can"], True)
        room.hear(row_of("a"))
        self.assertEqual(room.play()[0], "b")


if __name__ == "__main__":
    unittest.main()
