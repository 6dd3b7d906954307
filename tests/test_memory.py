"""Point 9 of the document: keeproom/memory.py."""

import copy
import unittest

from keeproom.meaning import meaning
from keeproom.memory import first_cells, hear_cells
from keeproom.numbers import write_number
from keeproom.questions import parts, read_question
from tests.oracles import Memory, fractions_of, lucky, pair_of, pairs_of, random_row, random_tree

NAMES = ("a", "b")
ROW = [("a", "1"), ("b", "1"), ("a", "-2"), ("b", "1/2")]
# The cells after each record of ROW, worked out by hand: last answer|count|held numbers; - stands for None.
CELLS = {
    "now": ("1|0|", "1|0|", "-2|0|", "1/2|0|"),
    "nothing": ("-|0|", "-|0|", "-|0|", "-|0|"),
    "is(a)": ("1|0|", "-|0|", "-2|0|", "-|0|"),
    "less(now,before(now))": (
        "-|0| 1|0| -|0| 1|0|", "-|0| 1|0| 1|0| 1|0|", "-2|0| -2|0| 1|0| -2|0|", "-|0| 1/2|0| -2|0| 1/2|0|"),
    "same(now,before(now))": (
        "-|0| 1|0| -|0| 1|0|", "1|0| 1|0| 1|0| 1|0|", "-|0| -2|0| 1|0| -2|0|", "-|0| 1/2|0| -2|0| 1/2|0|"),
    "if(is(b),now,nothing)": (
        "-|0| -|0| 1|0| -|0|", "1|0| 1|0| 1|0| -|0|", "-|0| -|0| -2|0| -|0|", "1/2|0| 1/2|0| 1/2|0| -|0|"),
    "if(is(a),before(now),last(is(b)))": (
        "-|0| 1|0| -|0| 1|0| -|0| -|0|", "1|0| -|0| 1|0| 1|0| 1|0| 1|0|",
        "1|0| -2|0| 1|0| -2|0| 1|0| -|0|", "1/2|0| -|0| -2|0| 1/2|0| 1/2|0| 1/2|0|"),
    "last(is(a))": ("1|0| 1|0|", "1|0| -|0|", "-2|0| -2|0|", "-2|0| -|0|"),
    "first(is(b))": ("-|0| -|0|", "1|0| 1|0|", "1|0| -|0|", "1|0| 1/2|0|"),
    "before(is(a))": ("-|0| 1|0|", "1|0| -|0|", "-|0| -2|0|", "-2|0| -|0|"),
    "great(1,now)": ("1|0|1 1|0|", "1|0|1 1|0|", "1|0|1 -2|0|", "1|0|1 1/2|0|"),
    "great(2,now)": ("-|0|1 1|0|", "-|0|1 1|0|", "-2|0|-2,1 -2|0|", "1/2|0|1/2,1 1/2|0|"),
    "great(2,is(a))": ("-|0|1 1|0|", "-|0|1 -|0|", "-2|0|-2,1 -2|0|", "-2|0|-2,1 -|0|"),
    "least(1,now)": ("1|0|1 1|0|", "1|0|1 1|0|", "-2|0|-2 -2|0|", "-2|0|-2 1/2|0|"),
    "least(2,now)": ("-|0|1 1|0|", "-|0|1 1|0|", "1|0|-2,1 -2|0|", "1/2|0|-2,1/2 1/2|0|"),
    "least(1,is(b))": ("-|0| -|0|", "1|0|1 1|0|", "1|0|1 -|0|", "1/2|0|1/2 1/2|0|"),
    "times(1,is(a))": ("1|1| 1|0|", "1|1| -|0|", "-2|1| -2|0|", "1/2|1| -|0|"),
    "times(2,is(a))": ("-|1| 1|0|", "-|1| -|0|", "-2|2| -2|0|", "1/2|2| -|0|"),
    "times(3,now)": ("-|1| 1|0|", "-|2| 1|0|", "-2|3| -2|0|", "1/2|3| 1/2|0|"),
    "circle(2,0,is(a))": ("-|1| 1|0|", "-|1| -|0|", "-2|0| -2|0|", "1/2|0| -|0|"),
    "circle(2,1,is(a))": ("1|1| 1|0|", "1|1| -|0|", "-|0| -2|0|", "-|0| -|0|"),
    "circle(2,0,nothing)": ("1|0| -|0|", "1|0| -|0|", "-2|0| -|0|", "1/2|0| -|0|"),
    "circle(3,0,now)": ("-|1| 1|0|", "-|2| 1|0|", "-2|0| -2|0|", "-|1| 1/2|0|"),
    "circle(3,1,now)": ("1|1| 1|0|", "-|2| 1|0|", "-|0| -2|0|", "1/2|1| 1/2|0|"),
    "circle(3,2,now)": ("-|1| 1|0|", "1|2| 1|0|", "-|0| -2|0|", "-|1| 1/2|0|"),
    # Where A answers, since empties the cells of B.
    "since(is(b),now)": ("1|0| -|0| 1|0|", "-|0| 1|0| -|0|", "-2|0| -|0| -2|0|", "-|0| 1/2|0| -|0|"),
    "since(is(b),great(2,now))": (
        "-|0| -|0| -|0|1 1|0|", "-|0| 1|0| -|0| -|0|", "-|0| -|0| -|0|-2 -2|0|", "-|0| 1/2|0| -|0| -|0|"),
    "since(is(b),times(1,now))": (
        "1|0| -|0| 1|1| 1|0|", "-|0| 1|0| -|0| -|0|", "-2|0| -|0| -2|1| -2|0|", "-|0| 1/2|0| -|0| -|0|"),
    # Where A is silent, among leaves the cells of B.
    "among(is(b),times(2,now))": (
        "-|0| -|0| -|0| -|0|", "-|0| 1|0| -|1| 1|0|", "-|0| -|0| -|1| 1|0|", "1/2|0| 1/2|0| 1/2|2| 1/2|0|"),
    "among(is(a),before(now))": (
        "-|0| 1|0| -|0| 1|0|", "-|0| -|0| -|0| 1|0|", "1|0| -2|0| 1|0| -2|0|", "1|0| -|0| 1|0| -2|0|"),
    "among(is(a),great(2,now))": (
        "-|0| 1|0| -|0|1 1|0|", "-|0| -|0| -|0|1 1|0|", "-2|0| -2|0| -2|0|-2,1 -2|0|", "-2|0| -|0| -2|0|-2,1 -2|0|"),
    "since(before(is(b)),among(is(b),now))": (
        "-|0| -|0| -|0| -|0| -|0| -|0|", "1|0| -|0| 1|0| 1|0| 1|0| 1|0|",
        "-|0| 1|0| -|0| -|0| -|0| -|0|", "1/2|0| -|0| 1/2|0| 1/2|0| 1/2|0| 1/2|0|"),
    "among(is(b),since(nothing,first(now)))": (
        "-|0| -|0| -|0| -|0| -|0| -|0|", "1|0| 1|0| 1|0| -|0| 1|0| 1|0|",
        "1|0| -|0| 1|0| -|0| 1|0| 1|0|", "1|0| 1/2|0| 1|0| -|0| 1|0| 1/2|0|"),
}


def shown(cells):
    """Cells in the writing of CELLS."""
    texts = []
    for answer, count, held in cells:
        told = "-" if answer is None else write_number(answer)
        texts.append(f"{told}|{count}|{','.join(write_number(number) for number in held)}")
    return " ".join(texts)


class MemoryTest(unittest.TestCase):
    def test_before_the_first_record(self):
        for text in CELLS:
            tree = read_question(text, NAMES)
            self.assertEqual(first_cells(tree), [(None, 0, ())] * parts(tree), text)

    def test_the_first_cells_are_new_each_time(self):
        tree = ("last", ("now",))
        first_cells(tree).clear()
        self.assertEqual(first_cells(tree), [(None, 0, ()), (None, 0, ())])

    def test_each_form_record_by_record(self):
        for text, expected in CELLS.items():
            tree = read_question(text, NAMES)
            cells = first_cells(tree)
            for (name, number), after in zip(pairs_of(ROW), expected):
                cells = hear_cells(tree, cells, name, number)
                self.assertEqual(shown(cells), after, text)

    def test_each_form_is_among_them(self):
        self.assertEqual(len({read_question(text, NAMES)[0] for text in CELLS}), 15)

    def test_the_kinds_of_what_cells_hold(self):
        cells = hear_cells(("times", 1, ("great", 1, ("now",))), [(None, 0, ())] * 3, "a", (1, 2))
        self.assertEqual(cells, [((1, 2), 1, ()), ((1, 2), 0, ((1, 2),)), ((1, 2), 0, ())])
        self.assertEqual({isinstance(cells, list)} | {isinstance(cell, tuple) for cell in cells}, {True})
        self.assertNotIsInstance(cells[0][1], bool)

    def test_the_cells_that_are_passed_are_as_they_were(self):
        for text in CELLS:
            tree = read_question(text, NAMES)
            cells = first_cells(tree)
            for name, number in pairs_of(ROW):
                before = copy.deepcopy(cells)
                heard = hear_cells(tree, cells, name, number)
                self.assertEqual(cells, before, text)
                self.assertIsNot(heard, cells)
                self.assertEqual(hear_cells(tree, cells, name, number), heard)
                cells = heard

    def test_what_is_returned_is_new_each_time(self):
        tree = read_question("among(nothing,last(now))", NAMES)
        cells = first_cells(tree)
        heard = hear_cells(tree, cells, "a", (1, 1))
        heard.clear()
        self.assertEqual(cells, [(None, 0, ())] * 4)

    def test_the_last_answer_is_what_the_definitions_tell(self):
        luck = lucky(9)
        for _ in range(800):
            tree = random_tree(luck, luck.randint(1, 10))
            row = pairs_of(random_row(luck, luck.randint(0, 9)))
            cells = first_cells(tree)
            self.assertIsNone(cells[0][0])
            for end, (name, number) in enumerate(row, 1):
                cells = hear_cells(tree, cells, name, number)
                self.assertEqual(cells[0][0], meaning(tree, row[:end]), (tree, row[:end]))

    def test_against_a_model_cell_by_cell(self):
        luck = lucky(99)
        for _ in range(800):
            tree = random_tree(luck, luck.randint(1, 10))
            row = random_row(luck, 9)
            cells = first_cells(tree)
            model = Memory(tree)
            for (name, number), (_, fraction) in zip(pairs_of(row), fractions_of(row)):
                cells = hear_cells(tree, cells, name, number)
                model.hear(name, fraction)
                expected = [(pair_of(answer), count, tuple(map(pair_of, held))) for answer, count, held in model.cells()]
                self.assertEqual(cells, expected, (tree, row))

    def test_a_deep_question(self):
        for opening, closing in (("last(", ")"), ("since(nothing,", ")"), ("among(now,", ")"), ("if(now,", ",now)")):
            count = 397 // len(opening + closing)
            tree = read_question(opening * count + "now" + closing * count, NAMES)
            cells = hear_cells(tree, first_cells(tree), "a", (3, 2))
            self.assertEqual(cells[0], ((3, 2), 0, ()))
            self.assertEqual(len(cells), parts(tree))


if __name__ == "__main__":
    unittest.main()
