"""Points 38 to 40 of the document: clashes, and trials of how soon something can be brought about."""

import unittest

from keeproom.errors import NoSuch
from keeproom.plants import Plant
from keeproom.rooms import Room, resume
from tests.games import orders_of
from tests.oracles import circling, place, row_of, saying, trap

AB = ("a", "b")


def all_of(room):
    return (room.state(), room.kept())


def room_at(plant, orders, word=""):
    """A room with these orders after a row of these names, whether or not they can be kept."""
    point = plant.point(row_of(word))
    return resume(plant, {"place": point[1], "numbers": point[2], "orders": orders, "turn": 0, "since": 0})


class ClashesTest(unittest.TestCase):
    def test_nothing_is_asked_for(self):
        room = Room(Plant(AB, [circling(AB)], ()), orders_of())
        self.assertEqual(room.clashes(), {"least": [], "greatest": [()], "promises": [()], "devices": [(0,)]})

    def test_all_can_be_kept(self):
        room = Room(Plant(AB, [circling(AB), circling(AB)], ("nothing", "is(a)", "is(b)")),
                    orders_of((0,), (0,), (1, 2), (1,)))
        self.assertEqual(room.clashes(), {"least": [], "greatest": [(0, 1, 2)], "promises": [()], "devices": [(0, 1)]})

    def test_demands_are_numbered_from_those_of_never_on(self):
        plant = Plant(AB, [saying("ab", "ab")], ("is(a)", "is(b)", "nothing"))
        # Demand 0 is that a never may be, 1 that b never may be: the others may say either. 2 is that nothing has to
        # answer again and again, 3 and 4 that a and b have to.
        clashes = room_at(plant, orders_of((0,), (0, 1), (2,))).clashes()
        self.assertEqual((clashes["least"], clashes["greatest"]), ([(2,), (1,), (0,)], [()]))
        clashes = room_at(plant, orders_of((0,), (1,), (0, 1))).clashes()
        self.assertEqual((clashes["least"], clashes["greatest"]), ([(0,)], [(1, 2)]))
        clashes = room_at(plant, orders_of((0,), (), (0, 1, 2))).clashes()
        self.assertEqual((clashes["least"], clashes["greatest"]), ([(2,)], [(0, 1)]))

    def test_demands_that_clash_together(self):
        plant = Plant(AB, [saying("a", "ab")], ("is(b)", "is(a)"))
        clashes = room_at(plant, orders_of((0,), (0,), (0,))).clashes()
        self.assertEqual((clashes["least"], clashes["greatest"]), ([(0, 1)], [(1,), (0,)]))
        clashes = room_at(plant, orders_of((0,), (0,), (0, 1))).clashes()
        self.assertEqual((clashes["least"], clashes["greatest"]), ([(0, 1)], [(1, 2), (0, 2)]))
        # The room says b or c.
        plant = Plant(("a", "b", "c"), [saying("a", "bc")], ("is(b)", "is(c)"))
        clashes = room_at(plant, orders_of((0,), (0, 1), (0, 1))).clashes()
        self.assertEqual(clashes["least"], [(1, 3), (0, 2), (0, 1)])
        self.assertEqual(clashes["greatest"], [(2, 3), (1, 2), (0, 3)])

    def test_what_cannot_be_kept_with_no_demand_at_all(self):
        plant = Plant(AB, [saying("a", "a"), saying("a", "b")], ("is(a)", "is(b)"))
        room = room_at(plant, orders_of((0, 1), (0,), (1,), (1,)))
        self.assertEqual(room.clashes(), {"least": [()], "greatest": [], "promises": [], "devices": []})
        room = room_at(plant, orders_of((0, 1), (), (1,), (0,)))
        self.assertEqual(room.clashes(), {"least": [()], "greatest": [], "promises": [], "devices": [(1,)]})

    def test_promises_that_are_needed(self):
        # The others may say a, b or c, the room c alone.
        plant = Plant(("a", "b", "c"), [saying("abc", "c")], ("is(a)", "is(b)", "is(c)"))
        for again, promises, expected in (
                ((0,), (0, 1, 2), [(0,)]), ((1,), (0, 1, 2), [(1,)]), ((0, 1), (0, 1, 2), [(0, 1)]),
                ((2,), (0, 1, 2), [()]), ((), (0, 1), [()]), ((0,), (1, 2), []), ((0,), (), []), ((2,), (), [()])):
            clashes = room_at(plant, orders_of((0,), (), again, promises)).clashes()
            self.assertEqual(clashes["promises"], expected, (again, promises))

    def test_several_least_sets_of_promises(self):
        plant = Plant(AB, [saying("ab", "a")], ("is(b)", "nothing", "is(b)"))
        clashes = room_at(plant, orders_of((0,), (), (0,), (0, 1, 2))).clashes()
        self.assertEqual(clashes["promises"], [(2,), (1,), (0,)])
        # They are named by their numbers among the questions.
        clashes = room_at(plant, orders_of((0,), (), (0,), (1, 2))).clashes()
        self.assertEqual(clashes["promises"], [(2,), (1,)])

    def test_devices_are_those_that_are_possible_whether_assumed_or_not(self):
        plant = Plant(AB, [saying("a", "a"), saying("a", "ab"), saying("ab", "b")], ())
        for word, expected in (("", [(1, 2), (0, 1)]), ("b", [(2,)]), ("ab", [(1, 2)]), ("aa", [(0, 1)]), ("bb", [(2,)])):
            for devices in ((1,), (2,), (0, 1), ()):
                self.assertEqual(room_at(plant, orders_of(devices), word).clashes()["devices"], expected, word)
        self.assertEqual(room_at(plant, orders_of(), "ba").clashes()["devices"], [])

    def test_no_set_of_devices_is_empty(self):
        plant = Plant(AB, [saying("ab", "a")], ("is(b)",))
        self.assertEqual(room_at(plant, orders_of((), (0,))).clashes()["devices"], [])

    def test_devices_with_all_demands_and_promises(self):
        plant = Plant(AB, [saying("a", "a"), saying("a", "ab"), saying("a", "b")], ("is(b)",))
        self.assertEqual(room_at(plant, orders_of((0,), (), (0,))).clashes()["devices"], [(1, 2)])
        self.assertEqual(room_at(plant, orders_of((0,), (0,))).clashes()["devices"], [(0, 1)])
        self.assertEqual(room_at(plant, orders_of((0,), (), (0,), (0,))).clashes()["devices"], [(1, 2), (0, 1)])

    def test_from_now_on(self):
        plant = Plant(AB, [trap()], ("is(b)", "is(a)"))
        clashes = [room_at(plant, orders_of((0,), (0,), (0, 1)), word).clashes()["least"] for word in ("", "ab", "aba")]
        # Behind ab the others go on saying a, the room b.
        self.assertEqual(clashes, [[(0, 1)], [(0,)], [(0,)]])

    def test_nothing_is_changed_and_lists_are_new(self):
        room = Room(Plant(AB, [circling(AB)], ("is(a)", "is(b)")), orders_of(again=(0, 1)))
        room.hear(row_of("aab"))
        before = (all_of(room), room.journal(), room.clashes())
        for told in room.clashes().values():
            self.assertIs(told.__class__, list)
            self.assertLessEqual({chosen.__class__ for chosen in told}, {tuple})
            told.append((9,))
        self.assertEqual((all_of(room), room.journal(), room.clashes()), before)


class TrialsTest(unittest.TestCase):
    def test_soonest(self):
        room = Room(Plant(AB, [saying("a", "ab")], ("is(b)", "is(a)", "nothing")), orders_of())
        for word, expected in (("", [2, 1, None]), ("a", [1, 0, None]), ("ab", [0, 1, None]), ("aa", [2, 0, None])):
            twin = room.twin()
            twin.hear(row_of(word))
            self.assertEqual([twin.soonest(q) for q in range(3)], expected, word)

    def test_several_moves(self):
        # Behind the room's third record b has come three times, if the room says it each time.
        plant = Plant(AB, [saying("a", "ab")], ("times(3,is(b))",))
        for word, expected in (("", 6), ("a", 5), ("ab", 4), ("aba", 3), ("abab", 2), ("ababa", 1), ("ababab", 0),
                               ("aa", 6), ("aaaba", 3), ("abababa", 0)):
            self.assertEqual(room_at(plant, orders_of(), word).soonest(0), expected, word)

    def test_the_others_may_prevent_it(self):
        plant = Plant(AB, [saying("ab", "a")], ("is(b)", "is(a)"))
        for word, expected in (("", [None, 2]), ("a", [None, 0]), ("b", [0, 1]), ("ba", [None, 0])):
            self.assertEqual([room_at(plant, orders_of(), word).soonest(q) for q in (0, 1)], expected, word)

    def test_others_who_cannot_but_do_it(self):
        device = [place(False, 0, ("a", 0, 1, ())), place(True, 0, ("a", 0, 2, ())),
                  place(False, 0, ("b", 0, 3, ())), place(True, 0, ("a", 0, 0, ()))]
        plant = Plant(AB, [device], ("is(b)",))
        for word, expected in (("", 3), ("a", 2), ("aa", 1), ("aab", 0), ("aaba", 3)):
            self.assertEqual(room_at(plant, orders_of(), word).soonest(0), expected)

    def test_none_of_the_nodes_is_bad(self):
        plant = Plant(AB, [saying("a", "ab")], ("is(b)", "is(a)", "nothing"))
        # The node itself is bad, or the one to which one would come, or one on the way.
        self.assertEqual([room_at(plant, orders_of(never=(0,)), "ab").soonest(q) for q in range(3)], [None] * 3)
        self.assertEqual([room_at(plant, orders_of(never=(0,)), "a").soonest(q) for q in range(3)], [None, 0, None])
        self.assertEqual([room_at(plant, orders_of(never=(1,)), "").soonest(q) for q in range(3)], [None] * 3)
        plant = Plant(AB, [saying("a", "ab")], ("times(2,is(b))", "times(3,is(b))"))
        self.assertEqual(room_at(plant, orders_of(), "").soonest(1), 6)
        self.assertIsNone(room_at(plant, orders_of(never=(0,)), "").soonest(1))

    def test_records_that_may_be_made(self):
        plant = Plant(AB, [saying("a", "a"), saying("a", "ab")], ("is(b)",))
        for devices, expected in (((0,), None), ((1,), 2), ((0, 1), None)):
            self.assertEqual(room_at(plant, orders_of(devices)).soonest(0), expected)
        # A stuck room brings about nothing, nor is anything brought about where no assumed device is left.
        self.assertIsNone(room_at(plant, orders_of(()), "a").soonest(0))
        self.assertIsNone(room_at(plant, orders_of((0,)), "ba").soonest(0))
        self.assertEqual(room_at(plant, orders_of((0,)), "bb").soonest(0), 0)
        self.assertIsNone(room_at(plant, orders_of((0,)), "b").soonest(0))

    def test_apart(self):
        plant = Plant(("a", "b", "c"), [saying("ac", "a"), saying("bc", "a"), saying("abc", "b")], ())
        # If the others go on saying c, devices 0 and 1 do the same; what the room says tells 2 from them.
        room = room_at(plant, orders_of())
        self.assertEqual([room.apart(0, 1), room.apart(0, 2), room.apart(1, 2)], [None, 2, 2])
        self.assertEqual([room.apart(1, 0), room.apart(2, 0), room.apart(2, 1)], [None, 2, 2])
        self.assertEqual([room.apart(at, at) for at in range(3)], [None, None, 2])
        room = room_at(plant, orders_of((2,)))
        self.assertEqual([room.apart(at, at) for at in range(3)], [2, 2, None])
        self.assertEqual([room.apart(0, 1), room.apart(0, 2), room.apart(1, 2)], [2, 2, 2])

    def test_apart_already(self):
        plant = Plant(("a", "b", "c"), [saying("ac", "a"), saying("bc", "a"), saying("abc", "b")], ())
        room = room_at(plant, orders_of((2,)), "a")
        self.assertEqual([room.apart(0, 1), room.apart(0, 2), room.apart(1, 2), room.apart(1, 1)], [0, 1, 0, 0])

    def test_devices_that_the_others_tell_apart(self):
        plant = Plant(AB, [saying("a", "a"), saying("b", "a")], ())
        self.assertEqual(room_at(plant, orders_of((0, 1))).apart(0, 1), 1)
        self.assertEqual(room_at(plant, orders_of((1,))).apart(0, 1), 1)

    def test_the_room_cannot_put_apart_what_it_assumes(self):
        plant = Plant(AB, [saying("a", "ab"), saying("a", "b")], ())
        self.assertIsNone(room_at(plant, orders_of((0, 1))).apart(0, 1))
        self.assertEqual(room_at(plant, orders_of((0,))).apart(0, 1), 2)
        self.assertEqual(room_at(plant, orders_of((0,)), "a").apart(0, 1), 1)

    def test_none_of_the_nodes_is_bad_where_devices_are_put_apart(self):
        plant = Plant(AB, [saying("a", "ab"), saying("a", "b")], ("is(a)", "is(b)"))
        self.assertEqual(room_at(plant, orders_of((0,), (1,)), "a").apart(0, 1), 1)
        self.assertIsNone(room_at(plant, orders_of((0,), (0,)), "a").apart(0, 1))
        self.assertIsNone(room_at(plant, orders_of((0,), (0,)), "").apart(0, 1))

    def test_no_such_device_or_question(self):
        room = Room(Plant(AB, [circling(AB), circling(AB)], ("now", "nothing")), orders_of())
        room.hear(row_of("a"))
        before = (all_of(room), room.journal())
        for i, j in ((2, 0), (0, 2), (-1, 0), (0, -1), (2, 2), (-1, -1), (9, 9), (-2, 1)):
            with self.assertRaises(NoSuch):
                room.apart(i, j)
        for q in (2, 3, 9, -1, -2):
            with self.assertRaises(NoSuch):
                room.soonest(q)
        with self.assertRaises(NoSuch):
            Room(Plant(AB, [circling(AB)], ()), orders_of()).soonest(0)
        self.assertEqual((room.apart(0, 1), room.soonest(0), room.soonest(1)), (None, 0, None))
        self.assertEqual((all_of(room), room.journal()), before)


if __name__ == "__main__":
    unittest.main()
