"""Point 20 of the document: orders that are refused, by each function that takes some."""

import copy
import unittest

from keeproom.arenas import arena, can
from keeproom.errors import KeeproomError, OrdersError, RowError
from keeproom.others import Others
from keeproom.papers import check, papers
from keeproom.plants import Plant
from keeproom.rooms import Room
from tests.games import KEYS, orders_of
from tests.oracles import circling

AB = ("a", "b")


def plant_of(devices, questions):
    return Plant(AB, [circling(AB)] * devices, ("now",) * questions)


def after_all(call, *arguments):
    """Calls what may raise any other error of the program."""
    try:
        call(*arguments)
    except OrdersError:
        raise
    except KeeproomError:
        pass


TAKERS = (
    arena,
    lambda plant, orders: can(plant, orders, [("a", "1")]),
    papers,
    lambda plant, orders: check(plant, orders, papers(plant, orders_of((0,)))),
    lambda plant, orders: after_all(Room, plant, orders),
    lambda plant, orders: after_all(Room(plant, orders_of((0,))).order, orders),
    lambda plant, orders: Room(plant, orders_of((0,))).would(orders),
    lambda plant, orders: after_all(Others, plant, orders, [("a", "1")]),
)


class OrdersTest(unittest.TestCase):
    def assert_refused(self, plant, orders):
        for number, take in enumerate(TAKERS):
            with self.assertRaises(OrdersError, msg=(number, orders)):
                take(plant, orders)

    def assert_taken(self, plant, orders):
        for take in TAKERS:
            take(plant, orders)

    def test_strictly_ascending_ones_are_taken(self):
        for devices in ((), (0,), (1,), (2,), (0, 1), (0, 2), (1, 2), (0, 1, 2)):
            self.assert_taken(plant_of(3, 0), orders_of(devices))
            for key in KEYS[1:]:
                self.assert_taken(plant_of(1, 3), {**orders_of(), key: devices})
        self.assert_taken(plant_of(3, 3), orders_of((0, 1, 2), (0, 1, 2), (0, 1, 2), (0, 1, 2)))
        self.assert_taken(plant_of(3, 3), orders_of((), (), (), ()))

    def test_numbers_that_are_not_strictly_ascending(self):
        for numbers in ((1, 0), (2, 1), (0, 2, 1), (1, 0, 2), (0, 0), (2, 2), (0, 1, 1), (0, 0, 1), (0, 1, 0)):
            for key in KEYS:
                self.assert_refused(plant_of(3, 3), {**orders_of((0, 1, 2)), key: numbers})

    def test_numbers_that_there_are_not(self):
        for many in (1, 2, 3):
            for numbers in ((many,), (many + 1,), (9,), (0, many), (-1,), (-1, 0), (-many,), (-9,), (-2, -1)):
                self.assert_refused(plant_of(many, 3), orders_of(numbers))
                for key in KEYS[1:]:
                    self.assert_refused(plant_of(1, many), {**orders_of(), key: numbers})

    def test_there_are_as_many_devices_and_questions_as_the_plant_has(self):
        self.assert_taken(plant_of(3, 1), orders_of((2,)))
        for key in KEYS[1:]:
            self.assert_refused(plant_of(3, 1), {**orders_of(), key: (1,)})
            self.assert_taken(plant_of(1, 3), {**orders_of(), key: (2,)})
        self.assert_refused(plant_of(1, 3), orders_of((1,)))
        for key in KEYS[1:]:
            self.assert_refused(plant_of(1, 0), {**orders_of(), key: (0,)})

    def test_one_wrong_tuple_among_right_ones_is_enough(self):
        right = orders_of((0, 1), (0,), (1, 2), (0, 1, 2))
        self.assert_taken(plant_of(2, 3), right)
        for key in KEYS:
            for numbers in ((1, 0), (0, 0), (3,), (-1,)):
                self.assert_refused(plant_of(2, 3), {**right, key: numbers})

    def test_a_question_may_stand_in_several_tuples(self):
        self.assert_taken(plant_of(1, 3), orders_of((0,), (1,), (1,), (1,)))

    def test_the_error(self):
        with self.assertRaises(KeeproomError) as caught:
            arena(plant_of(1, 1), orders_of((1,)))
        self.assertIs(caught.exception.__class__, OrdersError)

    def test_orders_are_refused_before_rows(self):
        plant = plant_of(1, 1)
        for row in ([("c", "1")], [("a", "-0")], [("a", "1"), ("b", "2"), ("b", "")]):
            with self.assertRaises(OrdersError):
                can(plant, orders_of((1,)), row)
            with self.assertRaises(RowError) as caught:
                can(plant, orders_of((0,)), row)
            self.assertEqual(caught.exception.at, len(row) - 1)

    def test_orders_are_as_they_were(self):
        right = orders_of((0, 1), (), (1,), (0, 2))
        wrong = orders_of((0, 1), (), (1,), (2, 0))
        before = copy.deepcopy((right, wrong))
        self.assert_taken(plant_of(2, 3), right)
        self.assert_refused(plant_of(2, 3), wrong)
        self.assertEqual((right, wrong), before)


if __name__ == "__main__":
    unittest.main()
