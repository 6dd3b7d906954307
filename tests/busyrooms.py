"""What several tests of rooms share: refusals that change nothing, and rooms with much behind them."""

import copy
import unittest

from keeproom.errors import KeeproomError
from keeproom.plants import Plant
from keeproom.questions import write_question
from keeproom.rooms import Room
from tests.games import random_orders, random_plant
from tests.oracles import random_row
from tests.slowrooms import outcome


def all_of(room):
    """What a room tells of all that it has."""
    return (room.state(), room.kept(), room.journal())


class RoomTest(unittest.TestCase):
    def assert_unchanged(self, error, room, call, *arguments):
        """Whether a call raises just this error, and leaves everything as it was."""
        before = all_of(room)
        given = copy.deepcopy(arguments)
        with self.assertRaises(KeeproomError) as caught:
            call(*arguments)
        self.assertIs(caught.exception.__class__, error)
        self.assertEqual(all_of(room), before)
        self.assertEqual(arguments, given)
        return caught.exception


def busy_rooms(luck, many, rounds):
    """For each of so many rooms what its plant is made of, the plant, and the room, after some rounds of events."""
    while many > 0:
        names, devices, trees = random_plant(luck, 16)
        plant = Plant(names, devices, tuple(write_question(tree) for tree in trees))
        how, *found = outcome(Room, plant, random_orders(luck, len(devices), len(trees)))
        if how == "returned":
            many -= 1
            for _ in range(rounds):
                found[0].hear(random_row(luck, luck.randint(0, 2), names))
                outcome(found[0].play)
                outcome(found[0].order, random_orders(luck, len(devices), len(trees)))
            yield (names, devices, trees), plant, found[0]
