"""Points 12 to 14 of the document: which devices fit, and what they allow (keeproom/devices.py, by plants)."""

import copy
import unittest

from keeproom.errors import KeeproomError, PlantError
from keeproom.plants import Plant
from tests.oracles import circling, lucky, place, random_device

NAMES = ("a", "b", "c")


def good():
    """A device that fits, and has all that the point names: two, one and no kept numbers, at each side."""
    return [
        place(False, 0, ("a", 0, 1, (0,)), ("b", 0, 3, ())),
        place(True, 1, ("a", 0, 2, (0, 1)), ("a", 1, 4, (0,)), ("a", 2, 0, ()), ("b", 2, 4, (1,))),
        place(False, 2, ("a", 0, 1, (2,)), ("a", 1, 1, (1,)), ("a", 2, 3, ()), ("c", 3, 1, (0,)), ("c", 4, 1, (2,))),
        place(True, 0, ("a", 0, 0, ()), ("c", 0, 4, (0,))),
        place(False, 1, ("b", 0, 3, ()), ("b", 1, 1, (0,)), ("b", 2, 1, (1,))),
    ]


def changed(*steps):
    """The good device, with the value at the end of the steps put in."""
    device = good()
    inner = device
    for step in steps[:-2]:
        inner = inner[step]
    inner[steps[-2]] = steps[-1]
    return device


def twelve_heads(count):
    """So many moves with different names and positions, of a place that keeps 2 numbers, to a place that keeps none."""
    return [(name, at, 0, ()) for name in NAMES for at in range(5)][:count]


def growing(*last):
    """A device with a place of the room's behind places that keep 0, 1 and 2 numbers."""
    return [
        place(False, 0, ("a", 0, 1, (0,))), place(True, 1, ("a", 0, 2, (0, 1))), place(False, 2, ("a", 0, *last)),
        place(True, 0, ("a", 0, 0, ()))]


def full(count):
    """A device with so many moves of one place."""
    return [
        place(False, 0, ("a", 0, 1, (0,))), place(True, 1, ("a", 0, 2, (0, 1))), place(False, 2, ("a", 0, 3, (0, 1))),
        place(True, 2, *twelve_heads(count))]


class FitsTest(unittest.TestCase):
    def refused(self, device):
        with self.assertRaises(PlantError) as caught:
            Plant(NAMES, [device], ())
        self.assertEqual((caught.exception.what, caught.exception.at), ("device", 0), device)

    def fits(self, device):
        self.assertGreaterEqual(Plant(NAMES, [device], ()).shapes(), 2)

    def test_devices_that_fit(self):
        self.fits(good())
        self.fits(circling())
        self.fits(circling(NAMES, 4))
        self.fits(full(12))
        self.fits(full(1))
        self.fits(growing(3, ()))
        luck = lucky(14)
        for _ in range(300):
            try:
                Plant(("a", "b"), [random_device(luck)], ())
            except PlantError as error:
                self.assertEqual(error.what, "much")

    def test_how_many_places(self):
        self.refused([])
        self.refused([place(False, 0, ("a", 0, 0, ()))])
        self.fits(good() + [])
        self.refused(good() + [place(True, 0, ("a", 0, 0, ()))])
        self.refused(circling(("a",), 6))
        self.refused(circling(("a",), 1))

    def test_place_0(self):
        self.refused([place(True, 0, ("a", 0, 1, ())), place(False, 0, ("a", 0, 0, ()))])
        self.refused([place(False, 1, ("a", 0, 1, ())), place(True, 0, ("a", 0, 0, (0,)))])

    def test_how_many_numbers_are_kept(self):
        device = growing(3, (0, 1, 2))
        device[3]["keeps"] = 3
        self.refused(device)
        device[3]["keeps"] = -1
        self.refused(device)
        self.refused(changed(3, "keeps", -1))
        self.refused(changed(4, "keeps", 3))

    def test_how_many_moves(self):
        self.refused(full(0))
        self.refused(full(13))
        self.refused(full(15))
        for at in range(5):
            self.refused(changed(at, "moves", []))

    def test_the_name_of_a_move(self):
        for name in ("d", "", "ab", "A", "a "):
            self.refused(changed(0, "moves", 0, (name, 0, 1, (0,))))
        with self.assertRaises(PlantError):
            Plant(("a", "b"), [good()], ())

    def test_the_position_of_a_move(self):
        # Places 3, 1 and 2 keep no, one and two numbers; the highest positions there are 0, 2 and 4.
        for at, aim, highest, keep in ((3, 0, 0, ()), (1, 0, 2, ()), (2, 3, 4, ())):
            for position in range(-2, 8):
                device = changed(at, "moves", [("c", position, aim, keep)])
                if 0 <= position <= highest:
                    self.fits(device)
                else:
                    self.refused(device)

    def test_the_next_place_of_a_move(self):
        # In a list -1 would be the last place; here it is none.
        for device in (circling(), circling(("a",), 4)):
            for aim in (-5, -4, -3, -2, -1, len(device), len(device) + 1, 99):
                for here in (0, -1):
                    broken = copy.deepcopy(device)
                    broken[here]["moves"].append(("b", 0, aim, ()))
                    self.refused(broken)
        for at, aim in ((0, 0), (0, 2), (1, 1), (1, 3), (2, 0), (3, 1)):
            broken = circling(("a",), 4)
            broken[at]["moves"].append(("b", 0, aim, ()))
            self.refused(broken)
        for at, aim in ((0, 1), (0, 3), (1, 0), (1, 2), (3, 0), (3, 2)):
            sound = circling(("a",), 4)
            sound[at]["moves"].append(("b", 0, aim, ()))
            self.fits(sound)

    def test_how_many_indices_a_move_has(self):
        for keep in ((0,), (0, 1), ()):
            device = changed(2, "moves", [("a", 0, 1, keep)])
            if keep == (0,):
                self.fits(device)
            else:
                self.refused(device)
        self.refused(changed(1, "moves", [("a", 0, 2, (0,))]))
        self.refused(changed(1, "moves", [("a", 1, 2, (0,))]))
        self.refused(changed(0, "moves", [("a", 0, 3, (0,))]))
        self.fits(changed(1, "moves", [("a", 0, 2, (0, 1))]))

    def test_indices_are_strictly_ascending(self):
        for keep in ((1, 0), (0, 0), (1, 1)):
            self.refused(changed(1, "moves", [("a", 0, 2, keep)]))

    def test_the_edges_of_an_index(self):
        # From place 1, that keeps one number, to place 4, that keeps one, too.
        for position in range(3):
            for index in range(-2, 4):
                device = changed(1, "moves", [("a", position, 4, (index,))])
                if 0 <= index <= (0 if position == 1 else 1):
                    self.fits(device)
                else:
                    self.refused(device)
        # From place 0, that keeps none, to place 1, that keeps one.
        for index in range(-1, 3):
            device = changed(0, "moves", [("a", 0, 1, (index,))])
            self.fits(device) if index == 0 else self.refused(device)
        # From place 2, that keeps two, to place 1, that keeps one.
        for position in range(5):
            for index in range(-1, 5):
                device = changed(2, "moves", [("a", position, 1, (index,))])
                if 0 <= index <= (1 if position in (1, 3) else 2):
                    self.fits(device)
                else:
                    self.refused(device)
        # Two indices, of which just one is wrong.
        for keep in ((-1, 0), (-1, 1), (0, 2), (1, 2)):
            self.refused(changed(1, "moves", [("a", 0, 2, keep)]))
        # At odd positions of place 1 there is just one number, so none of its moves there leads to place 2.
        for keep in ((0, 1), (0, 0), (-1, 0), (0,)):
            self.refused(changed(1, "moves", [("a", 1, 2, keep)]))

    def test_two_moves_with_the_same_name_and_position(self):
        self.refused(changed(0, "moves", [("a", 0, 1, (0,)), ("a", 0, 1, (0,))]))
        self.refused(changed(0, "moves", [("a", 0, 1, (0,)), ("b", 0, 3, ()), ("a", 0, 3, ())]))
        self.refused(changed(2, "moves", [("c", 3, 1, (0,)), ("c", 3, 1, (1,))]))
        self.fits(changed(2, "moves", [("c", 3, 1, (0,)), ("c", 4, 1, (0,)), ("b", 3, 1, (0,))]))

    def test_each_place_is_looked_at(self):
        for at in range(5):
            broken = good()
            broken[at]["moves"].append(("d", 0, 0, ()))
            self.refused(broken)

    def test_the_first_device_that_does_not_fit(self):
        bad = circling(("d",))
        for devices, at in (([bad, good()], 0), ([good(), bad], 1), ([good(), bad, bad], 1), ([good(), good(), bad], 2),
                            ([bad, bad, bad], 0)):
            with self.assertRaises(PlantError) as caught:
                Plant(NAMES, devices, ())
            self.assertEqual((caught.exception.what, caught.exception.at), ("device", at))
            self.assertIsInstance(caught.exception, KeeproomError)


class AllowsTest(unittest.TestCase):
    def stands(self, device, row):
        """Whether the device is possible after the row, and the numbers that it keeps."""
        plant = Plant(NAMES, [device], ())
        return plant.look(row)["possible"] == (0,), plant.point(row)[2]

    def test_the_good_device(self):
        # Worked out by hand, move by move.
        for row, expected in (
                ([], (True, ())),
                ([("a", "5")], (True, ("5",))),
                ([("b", "5")], (True, ())),
                ([("c", "5")], (False, ())),
                ([("a", "5"), ("a", "-7/2")], (True, ("-7/2", "5"))),
                ([("a", "5"), ("a", "5")], (True, ("5",))),
                ([("a", "5"), ("a", "6")], (True, ())),
                ([("a", "5"), ("b", "6")], (True, ("6",))),
                ([("a", "5"), ("b", "5")], (False, ())),
                ([("a", "5"), ("b", "4")], (False, ())),
                ([("a", "5"), ("a", "3"), ("a", "1")], (True, ("5",))),
                ([("a", "5"), ("a", "3"), ("a", "3")], (True, ("5",))),
                ([("a", "5"), ("a", "3"), ("a", "4")], (True, ())),
                ([("a", "5"), ("a", "3"), ("a", "5")], (False, ())),
                ([("a", "5"), ("a", "3"), ("a", "6")], (False, ())),
                ([("a", "5"), ("a", "3"), ("c", "5")], (True, ("3",))),
                ([("a", "5"), ("a", "3"), ("c", "6")], (True, ("6",))),
                ([("a", "5"), ("a", "3"), ("c", "4")], (False, ())),
                ([("a", "5"), ("b", "6"), ("b", "7")], (True, ("7",))),
                ([("a", "5"), ("b", "6"), ("b", "6")], (True, ("6",))),
                ([("a", "5"), ("b", "6"), ("b", "0")], (True, ())),
                ([("a", "5"), ("b", "6"), ("b", "0"), ("c", "-1")], (True, ("-1",)))):
            self.assertEqual(self.stands(good(), row), expected, row)

    def test_a_device_that_is_out_is_out_for_ever(self):
        row = [("a", "5"), ("b", "4")]
        for name in NAMES * 4:
            row = row + [(name, "5")]
            self.assertEqual(self.stands(good(), row), (False, ()))


if __name__ == "__main__":
    unittest.main()
