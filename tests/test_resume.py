"""Point 46 of the document: what a room keeps, rooms that are resumed from it, and twins."""

import copy
import unittest

from keeproom.errors import CannotKeep, JournalFull, KeeproomError, KeptError, NothingPossible, Resumed
from keeproom.papers import papers
from keeproom.plants import Plant
from keeproom.questions import write_question
from keeproom.rooms import Room, resume
from tests.games import number_after, orders_of, random_orders, random_plant
from tests.oracles import circling, lucky, place, random_row, row_of, saying, trap
from tests.slowrooms import outcome
from tests.test_passing import other_papers

AB = ("a", "b")


def keeping_plant():
    """A plant with two numbers at its nodes: one that a device keeps, and one that a question tells."""
    device = [place(False, 0, ("a", 0, 1, (0,))), place(True, 1, ("b", 0, 2, (1,)), ("b", 2, 2, (0,))),
              place(False, 1, ("a", 0, 3, (0,)), ("a", 1, 3, (0,)), ("a", 2, 3, (1,))),
              place(True, 1, ("b", 2, 2, (0,)))]
    return Plant(AB, [device], ("is(b)",))


def told_by(room):
    """All that a room tells, but for its journal."""
    calls = [room.state, room.kept, room.move, room.safe, room.clashes, lambda: room.apart(0, 0),
             lambda: room.soonest(0), lambda: room.pass_by(("a", "1/3"), 3)]
    return [outcome(call) for call in calls]


class KeptTest(unittest.TestCase):
    def test_what_is_kept(self):
        plant = keeping_plant()
        orders = orders_of((0,), (), (0,), ())
        room = Room(plant, orders)
        for record, place_word, numbers, since in (
                (None, "", (), 0), (("a", "5"), "a", ("5",), 1), (("b", "15/2"), None, ("5", "15/2"), 2),
                (("a", "-1"), None, ("-1",), 0), (("b", "7"), None, ("-1", "7"), 1)):
            if record is not None:
                room.hear([record])
            kept = room.kept()
            if place_word is not None:
                self.assertEqual(kept["place"], number_after(plant, place_word))
            self.assertEqual(kept, {"place": kept["place"], "numbers": numbers, "orders": orders, "turn": 0,
                                    "since": since})

    def test_kinds_and_copies(self):
        room = Room(keeping_plant(), orders_of(again=(0,)))
        room.hear([("a", "5")])
        kept = room.kept()
        self.assertEqual([kept[key].__class__ for key in ("place", "numbers", "orders", "turn", "since")],
                         [int, tuple, dict, int, int])
        before = copy.deepcopy(kept)
        kept["orders"]["again"] = ()
        kept.clear()
        self.assertEqual(room.kept(), before)


class ResumeTest(unittest.TestCase):
    def assert_goes_on_alike(self, plant, room, again, row):
        """Whether two rooms tell and do the same, along a row."""
        self.assertEqual(told_by(room), told_by(again))
        for record in row:
            for one in (room, again):
                one.hear([record])
            self.assertEqual(told_by(room), told_by(again))
        for orders in (orders_of(), orders_of(never=(0,)), orders_of(again=(0,)), orders_of((1,))):
            self.assertEqual(outcome(room.would, orders), outcome(again.would, orders))
            self.assertEqual(outcome(room.order, orders), outcome(again.order, orders))
            self.assertEqual(told_by(room), told_by(again))
        self.assertEqual(outcome(room.play), outcome(again.play))
        self.assertEqual(told_by(room), told_by(again))

    def test_a_resumed_room_against_the_one_it_came_from(self):
        row = [("a", "5"), ("b", "15/2"), ("a", "-1"), ("b", "7"), ("a", "7"), ("b", "9"), ("b", "1"), ("a", "1")]
        for end in range(len(row) + 1):
            for again in ((), (0,)):
                plant = keeping_plant()
                room = Room(plant, orders_of(again=again))
                room.hear(row[:end])
                self.assert_goes_on_alike(plant, room, resume(plant, room.kept()), row[end:])

    def test_goals_turns_and_counts(self):
        plant = Plant(AB, [circling(AB)], ("is(a)", "is(b)"))
        room = Room(plant, orders_of(again=(0, 1)))
        for name in "abbaabab":
            room.hear(row_of(name))
            again = resume(plant, room.kept())
            self.assertEqual((again.kept(), again.state()), (room.kept(), room.state()))
            self.assert_goes_on_alike(plant, room.twin(), again, row_of("abba"))

    def test_random_rooms(self):
        luck = lucky(46)
        made = 0
        while made < 60:
            names, devices, trees = random_plant(luck)
            plant = Plant(names, devices, tuple(write_question(tree) for tree in trees))
            how, *room = outcome(Room, plant, random_orders(luck, len(devices), len(trees)))
            if how == "raised" or not trees:
                continue
            made += 1
            room = room[0]
            room.hear(random_row(luck, luck.randint(0, 6), names))
            self.assert_goes_on_alike(plant, room, resume(plant, room.kept()), random_row(luck, 4, names))

    def test_orders_that_cannot_be_kept_there(self):
        plant = Plant(AB, [trap(), saying("b", "b")], ("is(b)",))
        room = Room(plant, orders_of(never=(0,)))
        room.hear(row_of("aba"))
        again = resume(plant, room.kept())
        self.assertEqual((again.state()["left"], again.state()["can"]), ((0,), False))
        with self.assertRaises(CannotKeep):
            again.move()
        room.hear(row_of("aa"))
        again = resume(plant, room.kept())
        self.assertEqual((again.state()["possible"], again.state()["left"]), ((), ()))
        with self.assertRaises(NothingPossible):
            again.move()

    def test_after_any_row(self):
        plant = Plant(AB, [saying("a", "ab")], ("is(b)",))
        for row in ([], [("a", "1")], [("a", "1"), ("b", "3/2")], [("b", "1")]):
            point = plant.point(row)
            kept = {"place": point[1], "numbers": point[2], "orders": orders_of(), "turn": 0, "since": 0}
            room = resume(plant, kept)
            state = room.state()
            self.assertEqual({key: state[key] for key in ("mine", "possible", "answers")}, plant.look(row))
            self.assertEqual(room.kept(), kept)

    def test_papers_are_those_of_the_orders_again(self):
        plant = Plant(AB, [circling(AB)], ("is(a)", "is(b)"))
        orders = orders_of(again=(0,))
        room = Room(plant, orders)
        room.hear(row_of("b"))
        own = room.move()
        room.trust(other_papers(plant, orders))
        self.assertNotEqual(room.move(), own)
        self.assertEqual(resume(plant, room.kept()).move(), own)

    def test_its_journal_is_not_told(self):
        plant = Plant(AB, [circling(AB)], ("is(a)",))
        again = resume(plant, Room(plant, orders_of()).kept())
        for change in (lambda: None, lambda: again.hear(row_of("ab")), lambda: again.order(orders_of())):
            change()
            for room in (again, again.twin(), again.twin().twin()):
                with self.assertRaises(Resumed) as caught:
                    room.journal()
                self.assertIs(caught.exception.__class__, Resumed)

    def test_200_events_counted_anew(self):
        plant = Plant(AB, [circling(AB)], ("is(a)",))
        room = Room(plant, orders_of())
        room.hear(row_of("a" * 199))
        with self.assertRaises(JournalFull):
            room.hear(row_of("a"))
        again = resume(plant, room.kept())
        with self.assertRaises(JournalFull):
            again.hear(row_of("a" * 201))
        again.hear(row_of("a" * 198))
        again.order(orders_of(again=(0,)))
        self.assertIs(again.state()["mine"], True)
        twin = again.twin()
        again.play()
        before = again.kept()
        for call in (lambda: again.hear(row_of("a")), lambda: again.order(orders_of())):
            with self.assertRaises(JournalFull):
                call()
        self.assertEqual(again.kept(), before)
        twin.hear(row_of("a"))
        with self.assertRaises(JournalFull):
            twin.hear(row_of("a"))
        resume(plant, again.kept()).hear(row_of("a" * 200))

    def test_arguments_are_copied_and_as_they_were(self):
        plant = Plant(AB, [circling(AB)], ("is(a)", "is(b)"))
        kept = {"place": 0, "numbers": (), "orders": orders_of(again=(0, 1)), "turn": 1, "since": 4}
        before = copy.deepcopy(kept)
        room = resume(plant, kept)
        self.assertEqual(kept, before)
        kept["orders"]["again"] = ()
        kept.clear()
        self.assertEqual(room.kept(), before)

    def test_rooms_of_another_plant_that_is_the_same(self):
        room = Room(keeping_plant(), orders_of(again=(0,)))
        room.hear([("a", "5"), ("b", "15/2")])
        self.assertEqual(resume(keeping_plant(), room.kept()).kept(), room.kept())


class KeptErrorTest(unittest.TestCase):
    def setUp(self):
        self.plant = keeping_plant()
        self.room = Room(self.plant, orders_of(again=(0,)))
        self.room.hear([("a", "5"), ("b", "15/2")])
        self.kept = self.room.kept()

    def assert_refused(self, **changes):
        kept = {**self.kept, **changes}
        before = copy.deepcopy(kept)
        with self.assertRaises(KeeproomError, msg=changes) as caught:
            resume(self.plant, kept)
        self.assertIs(caught.exception.__class__, KeptError)
        self.assertEqual(kept, before)

    def assert_taken(self, **changes):
        kept = {**self.kept, **changes}
        self.assertEqual(resume(self.plant, kept).kept(), kept)

    def test_places(self):
        many = self.plant.shapes()
        for at in (many, many + 1, 99, -1, -many):
            self.assert_refused(place=at)
            for count in range(4):
                self.assert_refused(place=at, numbers=("1", "2", "3")[:count])
        counts = {}
        for at in range(many):
            for count in range(4):
                kept = {**self.kept, "place": at, "numbers": ("1", "2", "3")[:count]}
                if outcome(resume, self.plant, kept)[0] == "returned":
                    counts.setdefault(at, []).append(count)
        self.assertEqual(sorted(counts), list(range(many)))
        self.assertEqual({len(found) for found in counts.values()}, {1})
        self.assertEqual(counts[0], [0])

    def test_counts_of_numbers(self):
        for numbers in ((), ("5",), ("5", "6", "7")):
            self.assert_refused(numbers=numbers)
        self.assert_refused(place=0)
        self.assert_taken(place=0, numbers=())
        self.assert_taken(numbers=("1", "2"))

    def test_texts_of_numbers(self):
        for text in ("", "x", "-0", "6/4", "05", "1.5", "4/1", "1/0"):
            self.assert_refused(numbers=(text, "9"))
            self.assert_refused(numbers=("-9", text))
            self.assert_refused(numbers=(text, text))

    def test_numbers_that_are_not_strictly_ascending(self):
        for numbers in (("6", "5"), ("5", "5"), ("10", "9"), ("-1", "-2"), ("1/2", "1/3"), ("1/2", "1/2")):
            self.assert_refused(numbers=numbers)
        for numbers in (("5", "6"), ("9", "10"), ("-2", "-1"), ("1/3", "1/2"), ("-1", "1/999999999999")):
            self.assert_taken(numbers=numbers)

    def test_orders(self):
        for orders in (orders_of((1,)), orders_of((-1,)), orders_of((0, 0)), orders_of(never=(1,)), orders_of(again=(1,)),
                       orders_of(promises=(0, 0)), orders_of(promises=(-1,))):
            self.assert_refused(orders=orders)
        for orders in (orders_of(()), orders_of(never=(0,)), orders_of((), (0,), (0,), (0,))):
            self.assert_taken(orders=orders)

    def test_goals(self):
        for turn in (1, 2, -1):
            self.assert_refused(turn=turn)
            self.assert_refused(turn=turn, orders=orders_of())
        self.assert_taken(turn=0, orders=orders_of())
        plant = Plant(AB, [circling(AB)], ("now", "is(a)", "is(b)"))
        kept = {"place": 0, "numbers": (), "orders": orders_of(again=(0, 2)), "turn": 1, "since": 0}
        self.assertEqual(resume(plant, kept).kept(), kept)
        for turn in (2, 3, -1):
            with self.assertRaises(KeptError):
                resume(plant, {**kept, "turn": turn})

    def test_counts(self):
        for since in (-1, -2, -999):
            self.assert_refused(since=since)
        for since in (0, 1, 999999999999):
            self.assert_taken(since=since)


class TwinTest(unittest.TestCase):
    def room(self):
        room = Room(Plant(AB, [circling(AB)], ("is(a)", "is(b)")), orders_of(again=(0, 1)))
        room.hear(row_of("aabba"))
        return room

    def all_of(self, room):
        return told_by(room) + [room.journal()]

    def test_a_twin_has_all_that_the_room_has(self):
        room = self.room()
        self.assertEqual(self.all_of(room.twin()), self.all_of(room))
        self.assertIs(room.twin().__class__, Room)
        fresh = Room(Plant(AB, [circling(AB)], ()), orders_of())
        self.assertEqual(fresh.twin().journal(), fresh.journal())

    def test_they_go_on_by_themselves(self):
        room = self.room()
        twin = room.twin()
        before = self.all_of(room)
        twin.play()
        twin.order(orders_of(again=(1,)))
        twin.hear(row_of("ab"))
        self.assertEqual(self.all_of(room), before)
        after = self.all_of(twin)
        room.play()
        room.hear(row_of("bbb"))
        room.order(orders_of(never=()))
        self.assertEqual(self.all_of(twin), after)
        third = twin.twin()
        third.hear(row_of("a"))
        self.assertEqual(self.all_of(twin), after)

    def test_papers_that_were_trusted(self):
        plant = Plant(AB, [circling(AB)], ("is(a)", "is(b)"))
        orders = orders_of(again=(0, 1))
        room = Room(plant, orders)
        room.hear(row_of("b"))
        own = room.move()
        room.trust(other_papers(plant, orders))
        twin = room.twin()
        self.assertEqual(twin.move(), room.move())
        self.assertNotEqual(twin.move(), own)
        twin.trust(papers(plant, orders))
        self.assertEqual(twin.move(), own)
        self.assertNotEqual(room.move(), own)

    def test_where_the_orders_cannot_be_kept(self):
        # Neither could they be put in force here, nor in a room that has heard nothing.
        room = Room(Plant(AB, [saying("a", "ab"), saying("b", "a")], ("is(b)", "times(1,is(b))")), orders_of((0, 1)))
        room.hear(row_of("aa"))
        room.order(orders_of((0,), (0,)))
        room.hear(row_of("ab"))
        self.assertIs(room.state()["can"], False)
        self.assertEqual(self.all_of(room.twin()), self.all_of(room))
        room.hear(row_of("b"))
        self.assertEqual(room.state()["left"], ())
        self.assertEqual(self.all_of(room.twin()), self.all_of(room))
        plant = Plant(AB, [saying("a", "b"), saying("b", "a")], ("is(b)",))
        room = Room(plant, orders_of((1,)))
        room.hear(row_of("b"))
        self.assertEqual(self.all_of(room.twin()), self.all_of(room))

    def test_a_full_journal(self):
        room = self.room()
        room.hear(row_of("a" * 194))
        twin = room.twin()
        for one in (room, twin):
            with self.assertRaises(JournalFull):
                one.hear(row_of("a"))
        self.assertEqual(twin.journal(), room.journal())


if __name__ == "__main__":
    unittest.main()
