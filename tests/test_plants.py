"""Points 1, 5 and 15 to 19 of the document: keeproom/plants.py."""

import copy
import itertools
import unittest
from fractions import Fraction

from keeproom.errors import KeeproomError, PlantError, RowError
from keeproom.meaning import meaning
from keeproom.numbers import write_number
from keeproom.plants import Plant
from keeproom.questions import read_question, write_question
from tests.oracles import (Model, circling, lucky, pairs_of, place, random_device, random_row, random_tree, reached,
                           text_of)

AB = ("a", "b")
# Records of circling(("a",), 4): (1) circle(3,0,now) has a period of 12 with it; (2) each times(K,..) around another
# one takes K - 1 records more until its count stays. So there are (2) records before the period of (1) begins.
TIMES_12 = "times(3," * 5 + "times(2,now" + ")" * 6
TIMES_13 = "times(3," * 5 + "times(2,times(2,now" + ")" * 7
# Texts that are no numbers, of each kind that point 4 names, and others.
NO_NUMBERS = (
    "", "-", "/", "-0", "00", "03", "-03", "+1", "1.5", "1,5", "1e3", "6/4", "3/1", "0/2", "0/1", "1/0", "1/-2", "1/02",
    "01/2", "1/", "/2", "1/2/3", "--1", " 1", "1 ", "1\n", "a", "now", "None", "\u0661", "\u00b2", "\u00bd", "1_0")
WRONG_NAMES = ("", "c", "A", "ab", "aa", "a ", "now", "1")


def refusal(names, devices, questions):
    """What the refusal of a plant tells, None if it is not refused."""
    try:
        Plant(names, devices, questions)
    except PlantError as error:
        return (error.what, error.at)
    return None


def free():
    """A plant without questions, of one device that allows all."""
    return Plant(AB, [circling(AB)], ())


class RefusalTest(unittest.TestCase):
    BAD = circling(("d",))
    MUCH = ("great(2,now)", "least(2,is(a))", "before(now)")

    def test_a_device(self):
        self.assertEqual(refusal(AB, [self.BAD], ()), ("device", 0))
        self.assertEqual(refusal(AB, [circling(), circling(), self.BAD], ("now",)), ("device", 2))

    def test_a_question(self):
        for text in ("", "Now", "is(c)", "great(3,now)", "times(0,now)", "circle(2,2,now)", "last(now", "now "):
            self.assertEqual(refusal(AB, [circling()], (text,)), ("question", 0), text)
            self.assertEqual(refusal(AB, [circling()], ("now", "is(b)", text)), ("question", 2), text)
        self.assertEqual(refusal(AB, [circling()], ("now", "no", "nono")), ("question", 1))
        self.assertEqual(refusal(("b",), [circling(("b",))], ("is(b)", "is(a)")), ("question", 1))

    def test_ten_parts_and_eleven(self):
        ten = ("last(" * 9 + "nothing" + ")" * 9,)
        eleven = ("last(" * 10 + "nothing" + ")" * 10,)
        self.assertIsNone(refusal(AB, [circling()], ten))
        self.assertEqual(refusal(AB, [circling()], eleven), ("long", 0))
        self.assertIsNone(refusal(AB, [circling()], ("less(nothing,nothing)",) * 3))
        self.assertIsNone(refusal(AB, [circling()], ("if(nothing,nothing,nothing)",) * 2 + ("last(nothing)",)))
        self.assertEqual(refusal(AB, [circling()], ("if(nothing,nothing,nothing)",) * 2 + ("less(nothing,nothing)",)),
                         ("long", 0))
        self.assertEqual(refusal(AB, [circling()], ("nothing",) * 11), ("long", 0))

    def test_questions_much_longer(self):
        self.assertEqual(refusal(AB, [circling()], ("last(" * 66 + "now" + ")" * 66,)), ("long", 0))
        self.assertEqual(refusal(AB, [circling()], ("last(" * 9000 + "now" + ")" * 9000,)), ("long", 0))

    def test_24_shapes_and_25(self):
        names = ("a",)
        devices = [circling(names, 4)]
        self.assertEqual(Plant(names, devices, ("circle(3,0,now)",)).shapes(), 13)
        plant = Plant(names, devices, (TIMES_12, "circle(3,0,now)"))
        self.assertEqual(plant.shapes(), 24)
        self.assertEqual([plant.point([("a", "1")] * count)[1] for count in range(50)],
                         [*range(24), *range(12, 24), *range(12, 24), 12, 13])
        self.assertEqual(refusal(names, devices, (TIMES_13, "circle(3,0,now)")), ("much", 0))
        self.assertEqual(refusal(AB, [circling(AB)], self.MUCH), ("much", 0))

    def test_24_shapes_and_25_against_a_model(self):
        devices = [circling()]
        for questions, count in (
                (("now", "before(is(a))"), 24), (("circle(2,0,now)", "before(is(a))"), 24),
                (("is(b)", "great(2,now)"), 25), (("circle(3,0,now)", "great(1,now)"), 25),
                (("times(2,now)", "before(is(a))"), 25)):
            trees = [read_question(text, AB) for text in questions]
            self.assertEqual(len(reached(AB, devices, trees, 30)), count)
            if count == 24:
                self.assertEqual(Plant(AB, devices, questions).shapes(), 24)
            else:
                self.assertEqual(refusal(AB, devices, questions), ("much", 0))

    def test_two_reasons_at_once(self):
        eleven = "last(" * 10 + "now" + ")" * 10
        self.assertEqual(refusal(AB, [circling(), self.BAD], ("no",)), ("device", 1))
        self.assertEqual(refusal(AB, [circling(), self.BAD], (eleven,)), ("device", 1))
        self.assertEqual(refusal(AB, [circling(AB), self.BAD], self.MUCH), ("device", 1))
        self.assertEqual(refusal(AB, [circling()], (eleven, "no")), ("question", 1))
        self.assertEqual(refusal(AB, [circling(AB)], (*self.MUCH, "no")), ("question", 3))
        much = ("great(2,less(before(now),now))", "least(2,is(a))", "before(before(now))", "is(b)")
        self.assertEqual(refusal(AB, [circling(AB)], much), ("long", 0))

    def test_the_error(self):
        with self.assertRaises(KeeproomError) as caught:
            Plant(AB, [self.BAD], ())
        self.assertIs(caught.exception.__class__, PlantError)

    def test_more_than_the_document_promises_is_not_refused(self):
        names = ("a", "b", "c", "dddddddddd")
        plant = Plant(names, [circling(names)] * 4, ("nothing",) * 5)
        self.assertEqual(plant.look([("dddddddddd", "1234567890123456789")]),
                         {"mine": True, "possible": (0, 1, 2, 3), "answers": (None,) * 5})
        self.assertEqual(plant.shapes(), 2)


class ShapesTest(unittest.TestCase):
    def points(self, plant, rows):
        return [plant.point(row) for row in rows]

    def test_the_documents_own_plant(self):
        plant = Plant(("a",), [circling()], ("now",))
        self.assertEqual(plant.shapes(), 3)
        self.assertEqual(self.points(plant, ([], [("a", "7/2")], [("a", "7/2"), ("a", "-3")], [("a", "1")] * 3)),
                         [("point", 0, ()), ("point", 1, ("7/2",)), ("point", 2, ("-3",)), ("point", 1, ("1",))])

    def test_name_by_name_in_the_order_of_the_names(self):
        rows = ([], [("a", "5")], [("b", "5")], [("a", "5"), ("a", "6")], [("b", "5"), ("b", "6")])
        plant = Plant(("a", "b"), [circling(AB)], ("is(a)",))
        self.assertEqual(self.points(plant, rows), [
            ("point", 0, ()), ("point", 1, ("5",)), ("point", 2, ()), ("point", 3, ("6",)), ("point", 0, ())])
        plant = Plant(("b", "a"), [circling(AB)], ("is(a)",))
        self.assertEqual(self.points(plant, rows), [
            ("point", 0, ()), ("point", 2, ("5",)), ("point", 1, ()), ("point", 3, ("6",)), ("point", 0, ())])
        self.assertEqual(plant.shapes(), 4)

    def test_position_by_position_from_0_on(self):
        device = [
            place(False, 0, ("a", 0, 1, (0,))), place(True, 1, ("a", 2, 2, ()), ("a", 0, 3, ()), ("a", 1, 4, ())),
            place(False, 0, ("a", 0, 1, (0,))), place(False, 0, ("a", 0, 1, (0,))), place(False, 0, ("a", 0, 1, (0,)))]
        plant = Plant(("a",), [device], ())
        self.assertEqual(plant.shapes(), 5)
        rows = [[("a", "5")]] + [[("a", "5"), ("a", text)] for text in ("4", "5", "6", "9/2", "11/2")]
        self.assertEqual(self.points(plant, rows), [
            ("point", 1, ("5",)), ("point", 2, ()), ("point", 3, ()), ("point", 4, ()), ("point", 2, ()),
            ("point", 4, ())])

    def test_shape_by_shape(self):
        # Behind a a device goes around 2 places, behind b around 4: those behind a are next, though less deep.
        device = [place(False, 0, ("a", 0, 1, ()), ("b", 0, 3, ())), place(True, 0, ("a", 0, 2, ()), ("b", 0, 0, ())),
                  place(False, 0, ("b", 0, 3, ())), place(True, 0, ("a", 0, 4, ())), place(False, 0, ("a", 0, 1, ()))]
        plant = Plant(AB, [device], ())
        # 0: place 0; 1: a, place 1; 2: b, place 3; then behind 1: 3, aa, place 2, and place 0 again;
        # behind 2: 4, ba, place 4; 5, bb, out at the others' turn; behind 3: 6, aaa, out at the room's turn.
        rows = [[(name, "0") for name in word] for word in ("", "a", "b", "aa", "ab", "ba", "bb", "aaa", "aab", "baa")]
        self.assertEqual([point[1] for point in self.points(plant, rows)], [0, 1, 2, 3, 0, 4, 5, 6, 2, 1])
        self.assertEqual(plant.shapes(), 7)

    def test_the_turn_is_a_part_of_the_shape(self):
        plant = Plant(AB, [circling()], ())
        rows = [[("b", "1")] * count for count in range(1, 5)]
        self.assertEqual([point[1] for point in self.points(plant, rows)], [2, 3, 2, 3])
        self.assertEqual(plant.shapes(), 4)

    def test_kept_numbers_and_answers_are_parts_of_the_shape_by_their_ranks(self):
        # Place 2 keeps the first number; the second one, which the question tells, lies below, at or above it.
        device = [place(False, 0, ("a", 0, 1, (0,))),
                  place(True, 1, ("a", 0, 2, (1,)), ("a", 1, 2, (0,)), ("a", 2, 2, (0,))),
                  place(False, 1, ("a", 2, 3, ())), place(True, 0, ("b", 0, 0, ()))]
        plant = Plant(AB, [device], ("now",))
        numbers = []
        for texts, kept_texts in ((("5", "3"), ("3", "5")), (("5", "5"), ("5",)), (("5", "7"), ("5", "7"))):
            point = plant.point([("a", text) for text in texts])
            self.assertEqual(point[2], kept_texts)
            self.assertEqual(plant.point([("a", str(Fraction(text) / 3 - 9)) for text in texts])[1], point[1])
            numbers.append(point[1])
        # Behind the first record (shape 1, or 2 for b) they are the next ones, in the order of the positions.
        self.assertEqual(numbers, [3, 4, 5])

    def test_numbers_are_told_ascending_and_each_once(self):
        plant = Plant(("a",), [circling(), circling()], ("great(2,now)",))
        self.assertEqual(plant.point([("a", "10"), ("a", "9")])[2], ("9", "10"))
        self.assertEqual(plant.point([("a", "1/2"), ("a", "1/3")])[2], ("1/3", "1/2"))
        self.assertEqual(plant.point([("a", "-1"), ("a", "-2"), ("a", "-3")])[2], ("-3", "-2", "-1"))
        self.assertEqual(plant.point([("a", "4"), ("a", "4")])[2], ("4",))
        self.assertEqual(plant.point([("a", "4"), ("a", "5"), ("a", "4")])[2], ("4", "5"))

    def test_numbers_of_devices_and_of_questions(self):
        keeping = [place(False, 0, ("a", 0, 1, (0,))), place(True, 1, ("b", 0, 0, ()), ("b", 2, 0, ()))]
        plant = Plant(AB, [keeping, circling()], ("is(b)",))
        self.assertEqual(plant.point([("a", "7")])[2], ("7",))
        self.assertEqual(plant.point([("a", "7"), ("b", "6")])[2], ("6",))
        self.assertEqual(plant.point([("a", "7"), ("b", "7")])[2], ("7",))
        self.assertEqual(plant.point([("a", "7"), ("a", "7")])[2], ())

    def test_long_texts(self):
        plant = Plant(("a",), [circling()], ("now",))
        for text in ("9" * 4500, "-" + "8" * 3999 + "/" + "8" * 3998 + "7"):
            self.assertEqual(plant.point([("a", text)]), ("point", 1, (text,)))
            self.assertEqual(plant.look([("a", text)])["answers"], (text,))

    def test_a_long_row(self):
        plant = Plant(("a",), [circling()], ("great(2,now)",))
        row = [("a", str(number)) for number in range(3001)]
        self.assertEqual(plant.point(row)[2], ("2999", "3000"))

    def test_against_a_model(self):
        luck = lucky(17)
        counts = set()
        for _ in range(250):
            names = luck.choice((("a",), ("a", "b"), ("b", "a")))
            devices = [random_device(luck, names) for _ in range(luck.randint(1, 3))]
            trees = [random_tree(luck, luck.randint(1, 3), names) for _ in range(luck.randint(0, 2))]
            questions = tuple(write_question(tree) for tree in trees)
            found = reached(names, devices, trees)
            if len(found) > 24:
                self.assertEqual(refusal(names, devices, questions), ("much", 0))
                continue
            plant = Plant(names, devices, questions)
            counts.add(plant.shapes())
            self.assertEqual(plant.shapes(), len(found))
            self.check_shapes(plant, found)
            self.check_rows(plant, luck, names, devices, trees, list(found))
        self.assertGreater(len(counts), 15)

    def check_shapes(self, plant, found):
        for number, model in enumerate(found.values()):
            row = [(name, str(fraction)) for name, fraction in model.row]
            self.assertEqual(plant.point(row), ("point", number, tuple(map(str, model.numbers()))))

    def check_rows(self, plant, luck, names, devices, trees, shapes):
        row = random_row(luck, 6, names)
        for end in range(len(row) + 1):
            model = Model(names, devices, trees, [(name, Fraction(text)) for name, text in row[:end]])
            numbers = tuple(map(str, model.numbers()))
            self.assertEqual(plant.point(row[:end]), ("point", shapes.index(model.shape()), numbers))
            self.assertEqual(plant.look(row[:end]), {
                "mine": model.mine, "possible": tuple(at for at, one in enumerate(model.stands) if one is not None),
                "answers": tuple(map(text_of, model.answers))})


class LookTest(unittest.TestCase):
    def test_whose_turn_it_is(self):
        plant = free()
        for count in range(6):
            self.assertIs(plant.look([("a", "1")] * count)["mine"], count % 2 == 1)
            # It goes on whether or not a device allows the records.
            self.assertIs(Plant(AB, [circling()], ()).look([("b", "1")] * count)["mine"], count % 2 == 1)

    def test_which_devices_are_possible(self):
        only_a = circling(("a",))
        only_b = circling(("b",))
        rising = [place(False, 0, ("a", 0, 1, (0,))), place(True, 1, ("a", 2, 0, ()), ("b", 2, 0, ()))]
        plant = Plant(AB, [only_a, only_b, rising], ())
        for row, expected in (
                ([], (0, 1, 2)), ([("a", "1")], (0, 2)), ([("b", "1")], (1,)), ([("a", "1"), ("a", "2")], (0, 2)),
                ([("a", "1"), ("a", "1")], (0,)), ([("a", "1"), ("a", "1/2")], (0,)), ([("a", "1"), ("b", "2")], (2,)),
                ([("a", "1"), ("b", "1")], ()), ([("b", "1"), ("a", "1")], ()), ([("b", "1")] * 9, (1,)),
                ([("a", "1"), ("b", "1"), ("a", "1")], ()), ([("a", "1"), ("b", "2"), ("a", "1")], (2,))):
            self.assertEqual(plant.look(row)["possible"], expected, row)

    def test_a_device_that_goes_out_takes_its_numbers_along(self):
        rising = [place(False, 0, ("a", 0, 1, (0,))), place(True, 1, ("a", 2, 0, ()), ("b", 1, 2, (0,))),
                  place(False, 1, ("a", 0, 1, (0,)))]
        plant = Plant(AB, [circling(AB), rising], ())
        self.assertEqual(plant.point([("a", "1"), ("b", "1")])[2], ("1",))
        self.assertEqual(plant.point([("a", "1"), ("b", "1"), ("a", "0")])[2], ("0",))
        self.assertEqual(plant.point([("a", "1"), ("b", "1"), ("a", "2")])[2], ())
        self.assertEqual(plant.look([("a", "1"), ("b", "1"), ("a", "2")])["possible"], (0,))

    def test_answers(self):
        plant = Plant(AB, [circling()], ("last(is(b))", "now", "nothing"))
        self.assertEqual(plant.look([])["answers"], (None, None, None))
        self.assertEqual(plant.look([("a", "-1/3")])["answers"], (None, "-1/3", None))
        self.assertEqual(plant.look([("b", "10"), ("a", "2")])["answers"], ("10", "2", None))

    def test_answers_are_of_all_records_whether_or_not_a_device_allows_them(self):
        plant = Plant(AB, [circling()], ("great(1,now)", "is(b)"))
        row = [("b", "3"), ("b", "5"), ("a", "4"), ("b", "1")]
        for end in range(len(row) + 1):
            expected = [meaning(read_question(text, AB), pairs_of(row[:end])) for text in ("great(1,now)", "is(b)")]
            texts = tuple(None if pair is None else write_number(pair) for pair in expected)
            self.assertEqual(plant.look(row[:end])["answers"], texts)
        self.assertEqual(plant.look(row), {"mine": False, "possible": (), "answers": ("5", "1")})

    def test_the_kinds_of_what_is_returned(self):
        plant = Plant(AB, [circling()], ("now", "nothing"))
        for row in ([], [("a", "1/2")], [("a", "1/2"), ("b", "3")]):
            point = plant.point(row)
            self.assertEqual([item.__class__ for item in point], [str, int, tuple])
            look = plant.look(row)
            self.assertEqual(list(look), ["mine", "possible", "answers"])
            self.assertEqual([item.__class__ for item in look.values()], [bool, tuple, tuple])
            self.assertLessEqual({item.__class__ for item in look["possible"]}, {int})
        self.assertIs(plant.shapes().__class__, int)

    def test_no_questions_and_no_numbers(self):
        self.assertEqual(free().look([("b", "1/2")]), {"mine": True, "possible": (0,), "answers": ()})
        self.assertEqual(free().point([("b", "1/2")]), ("point", 1, ()))
        self.assertEqual(free().shapes(), 2)


class RowsTest(unittest.TestCase):
    def refused_at(self, plant, row):
        found = []
        for method in (plant.point, plant.look):
            with self.assertRaises(RowError) as caught:
                method(row)
            found.append(caught.exception.at)
        self.assertEqual(found[0], found[1])
        return found[0]

    def test_no_name_of_the_plant(self):
        for name in WRONG_NAMES:
            self.assertEqual(self.refused_at(free(), [(name, "1")]), 0, name)
            self.assertEqual(self.refused_at(free(), [("a", "1"), ("b", "2"), (name, "1"), ("a", "1")]), 2, name)

    def test_no_text_of_a_number(self):
        for text in NO_NUMBERS:
            self.assertEqual(self.refused_at(free(), [("a", text)]), 0, text)
            self.assertEqual(self.refused_at(free(), [("a", "1"), ("b", text), ("a", "1")]), 1, text)

    def test_the_first_wrong_element_is_told(self):
        row = [("a", "1"), ("b", "2"), ("a", "3"), ("b", "4")]
        for first, second in itertools.combinations(range(4), 2):
            wrong = list(row)
            wrong[first] = ("c", "1")
            wrong[second] = ("a", "-0")
            self.assertEqual(self.refused_at(free(), wrong), first)
            wrong[first] = ("a", "-0")
            wrong[second] = ("c", "1")
            self.assertEqual(self.refused_at(free(), wrong), first)
            wrong[first] = ("c", "-0")
            self.assertEqual(self.refused_at(free(), wrong), first)

    def test_behind_records_that_no_device_allows(self):
        plant = Plant(AB, [circling()], ())
        self.assertEqual(self.refused_at(plant, [("b", "1"), ("b", "1"), ("b", "6/4")]), 2)

    def test_rows_without_one_raise_nothing(self):
        for text in ("0", "-3", "7/2", "-1/3", "999999999999", "-999999999999/999999999998"):
            for name in AB:
                self.assertEqual(free().look([(name, text)])["possible"], (0,))
        self.assertEqual(free().point([]), ("point", 0, ()))

    def test_a_refused_row_changes_nothing(self):
        plant = Plant(AB, [circling()], ("last(is(b))",))
        rows = ([], [("a", "1")], [("b", "1"), ("a", "2")])
        before = [(plant.point(row), plant.look(row), plant.shapes()) for row in rows]
        self.refused_at(plant, [("a", "1"), ("b", "2"), ("c", "1")])
        self.refused_at(plant, [("b", "1/1")])
        self.assertEqual([(plant.point(row), plant.look(row), plant.shapes()) for row in rows], before)

    def test_the_error(self):
        with self.assertRaises(KeeproomError) as caught:
            free().point([("c", "1")])
        self.assertIs(caught.exception.__class__, RowError)


class CopiesTest(unittest.TestCase):
    def devices(self):
        keeping = [place(False, 0, ("a", 0, 1, (0,))), place(True, 1, ("b", 0, 0, ()), ("b", 2, 0, ()))]
        return [keeping, circling(AB)]

    def told(self, plant):
        rows = ([], [("a", "1")], [("a", "1"), ("b", "2")], [("a", "1"), ("b", "1")], [("b", "1"), ("b", "1")])
        return [plant.shapes()] + [(plant.point(row), plant.look(row)) for row in rows]

    def test_arguments_are_as_they_were(self):
        devices = self.devices()
        row = [("a", "1"), ("b", "2")]
        before = copy.deepcopy((devices, row))
        plant = Plant(AB, devices, ("now",))
        plant.point(row)
        plant.look(row)
        self.assertEqual((devices, row), before)
        bad = self.devices() + [circling(("d",))]
        before = copy.deepcopy(bad)
        refusal(AB, bad, ("no",))
        self.assertEqual(bad, before)

    def test_devices_that_are_changed_later_change_nothing(self):
        def clear(devices):
            devices.clear()

        def swap(devices):
            devices.reverse()

        def shorten(devices):
            del devices[0][1]

        def turn(devices):
            devices[0][1]["mine"] = False
            devices[0][1]["keeps"] = 0
            devices[0][1]["moves"] = []

        def forget(devices):
            for device in devices:
                for here in device:
                    here["moves"].clear()

        def lead(devices):
            devices[0][1]["moves"].append(("b", 1, 0, ()))
            devices[1][0]["moves"][0] = ("a", 0, 1, (0,))

        expected = self.told(Plant(AB, self.devices(), ("now",)))
        for change in (clear, swap, shorten, turn, forget, lead):
            devices = self.devices()
            plant = Plant(AB, devices, ("now",))
            change(devices)
            self.assertEqual(self.told(plant), expected, change.__name__)

    def test_what_is_returned_is_new_each_time(self):
        plant = Plant(AB, self.devices(), ("now",))
        before = self.told(plant)
        for row in ([], [("a", "1")]):
            look = plant.look(row)
            look["mine"] = None
            look.clear()
        self.assertEqual(self.told(plant), before)

    def test_plants_know_nothing_of_each_other(self):
        first = Plant(AB, self.devices(), ("now",))
        before = self.told(first)
        Plant(("a",), [circling()], ("is(a)",)).look([("a", "9")])
        refusal(AB, self.devices(), ("no",))
        self.assertEqual(self.told(first), before)

    def test_the_listed_methods_stand_in_the_class_itself(self):
        for name in ("__init__", "shapes", "point", "look"):
            self.assertIn(name, vars(Plant))
        self.assertEqual(Plant.__module__, "keeproom.plants")


if __name__ == "__main__":
    unittest.main()
