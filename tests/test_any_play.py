"""Rooms in plays of all kinds, call by call against a slow reading of the document: points 31 to 41 and 46."""

import collections
import copy
import unittest

from keeproom.journals import write_journal
from keeproom.papers import papers
from keeproom.plants import Plant
from keeproom.questions import write_question
from keeproom.replays import replay
from keeproom.rooms import Room, resume
from tests.games import change_papers, random_orders, random_plant
from tests.oracles import lucky, random_number
from tests.slowrooms import SlowRoom, World, outcome, spots

CALLS = ("hear", "hear", "hear", "play", "play", "play", "move", "safe", "pass_by", "order", "would", "trust", "clashes",
         "apart", "soonest", "kept", "state")
WANTED = (
    ("made", "OrdersError"), ("made", "NothingPossible"), ("made", "CannotKeep"), ("made", "returned"),
    ("hear", "returned"), ("hear", "RowError"), ("play", "returned"), ("play", "NotItsTurn"),
    ("play", "NothingPossible"), ("move", "returned"), ("move", "NotItsTurn"), ("safe", "returned"),
    ("safe", "NotItsTurn"), ("pass_by", "returned"), ("pass_by", "RowError"), ("pass_by", "NotItsTurn"),
    ("order", "returned"), ("order", "OrdersError"), ("order", "NothingPossible"), ("order", "CannotKeep"),
    ("would", "returned"), ("would", "OrdersError"), ("trust", "returned"), ("trust", "PapersError"),
    ("clashes", "returned"), ("apart", "returned"), ("apart", "NoSuch"), ("soonest", "returned"), ("soonest", "NoSuch"))


class AnyPlayTest(unittest.TestCase):
    def orders(self, luck, world):
        orders = random_orders(luck, len(world.devices), len(world.trees))
        if luck.random() < 0.1:
            orders[luck.choice(list(orders))] = luck.choice(((1, 0), (0, 0), (-1,), (5,)))
        return orders

    def record(self, luck, slow):
        chance = luck.random()
        if chance < 0.05:
            return (luck.choice(slow.world.names + ("zz",)), luck.choice(("1", "-0", "x")))
        if chance < 0.8:
            name, position, _ = luck.choice(slow.world.nodes(slow.orders)[slow.node()]["moves"])
            return (name, str(spots(slow.model)[position]))
        return (luck.choice(slow.world.names), random_number(luck))

    def arguments(self, luck, call, plant, slow):
        if call == "hear":
            return [[self.record(luck, slow) for _ in range(luck.choice((0, 1, 1, 1, 2)))]]
        if call == "pass_by":
            return [self.record(luck, slow), luck.choice((0, 1, 2, 5))]
        if call in ("order", "would"):
            return [self.orders(luck, slow.world)]
        if call == "trust":
            given = papers(plant, slow.orders)
            for _ in range(luck.choice((0, 1, 1, 2))):
                change_papers(luck, given)
            if luck.random() < 0.1:
                given[luck.choice(list(given))].pop()
            return [given]
        if call == "apart":
            return [luck.randint(-1, len(slow.world.devices)), luck.randint(0, len(slow.world.devices))]
        if call == "soonest":
            return [luck.randint(-1, len(slow.world.trees))]
        return []

    def test_call_by_call(self):
        luck = lucky(9)
        told = collections.Counter()
        while told["made", "returned"] < 120:
            world = World(*random_plant(luck, 14))
            plant = Plant(world.names, world.devices, tuple(write_question(tree) for tree in world.trees))
            orders = self.orders(luck, world)
            room, slow = outcome(Room, plant, orders), outcome(SlowRoom, world, orders)
            told["made", room[0] if room[0] == "returned" else room[1].__name__] += 1
            if room[0] == "raised":
                self.assertEqual(room, slow)
                continue
            self.assertEqual(slow[0], "returned")
            self.play(luck, told, plant, room[1], slow[1])
        for wanted in WANTED:
            self.assertGreater(told[wanted], 2, (wanted, told))

    def play(self, luck, told, plant, room, slow):
        for step in range(24):
            call = luck.choice(CALLS)
            arguments = self.arguments(luck, call, plant, slow)
            before = copy.deepcopy(arguments)
            found = outcome(getattr(room, call), *arguments)
            self.assertEqual(found, outcome(getattr(slow, call), *arguments), (call, arguments))
            self.assertEqual(arguments, before)
            told[call, found[0] if found[0] == "returned" else found[1].__name__] += 1
            self.assertEqual((room.state(), room.kept()), (slow.state(), slow.kept()))
            if step % 8 == 0:
                room = room.twin()
            if step % 8 == 4:
                again = resume(plant, room.kept())
                self.assertEqual((again.state(), again.kept(), again.clashes()),
                                 (room.state(), room.kept(), room.clashes()))
        self.assertEqual(room.journal(), write_journal(slow.events))
        again = replay(plant, room.journal())
        self.assertEqual((again.state(), again.kept(), again.journal()), (room.state(), room.kept(), room.journal()))


if __name__ == "__main__":
    unittest.main()
