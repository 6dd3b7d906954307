"""Point 8 of the document: numbers count by their order alone, also for memories and plants."""

import unittest
from fractions import Fraction

from keeproom.meaning import meaning
from keeproom.memory import first_cells, hear_cells
from keeproom.plants import Plant
from keeproom.questions import read_question, write_question
from tests.oracles import lucky, pair_of, pairs_of, random_device, random_number, random_row, random_tree

ROW = [("a", "1"), ("b", "3"), ("a", "-2"), ("b", "1"), ("a", "1/2"), ("b", "3"), ("a", "7/2")]
# Other numbers in the same order: those of ROW are -2, 1/2, 1, 3, 7/2.
OTHERS = (
    ("-3", "-2", "-1", "0", "1"), ("-9/2", "-4", "-7/2", "-1/3", "-1/4"), ("1/9", "1/8", "1/7", "1/6", "1/5"),
    ("0", "1/999999999999", "2", "999999999998", "999999999999"), ("-999999999999", "0", "1", "2", "3"),
)
QUESTIONS = (
    "now", "nothing", "is(b)", "less(now,before(now))", "same(now,last(is(b)))", "if(is(a),great(2,now),least(2,now))",
    "last(is(a))", "first(now)", "great(1,now)", "great(2,is(a))", "least(1,is(b))", "least(2,now)", "times(2,now)",
    "circle(2,1,less(before(now),now))", "since(less(now,before(now)),great(1,now))",
    "among(same(now,first(is(b))),before(now))", "among(is(a),since(less(now,before(now)),least(2,now)))",
)


def all_cells(tree, row):
    cells = first_cells(tree)
    found = [cells]
    for name, number in row:
        cells = hear_cells(tree, cells, name, number)
        found.append(cells)
    return found


class OrderAloneTest(unittest.TestCase):
    def check(self, tree, row, other):
        table = {number: after for (_, number), (_, after) in zip(row, other)}
        table[None] = None
        for end in range(len(row) + 1):
            answer = meaning(tree, row[:end])
            self.assertEqual(meaning(tree, other[:end]), table[answer], (tree, row[:end]))
        for cells, after in zip(all_cells(tree, row), all_cells(tree, other)):
            # Counts stand beside the numbers, so only what is a pair is replaced.
            expected = [[table[answer], count, [table[number] for number in held]] for answer, count, held in cells]
            self.assertEqual([[answer, count, list(held)] for answer, count, held in after], expected)

    def test_each_form(self):
        order = sorted({text for _, text in ROW}, key=Fraction)
        for numbers in OTHERS:
            table = dict(zip(order, numbers))
            other = [(name, table[text]) for name, text in ROW]
            for text in QUESTIONS:
                self.check(read_question(text, ("a", "b")), pairs_of(ROW), pairs_of(other))

    def test_many_questions_and_rows(self):
        luck = lucky(8)
        for _ in range(400):
            row = random_row(luck, luck.randint(1, 8))
            different = sorted({Fraction(text) for _, text in row})
            steps = [Fraction(luck.randint(1, 9), luck.randint(1, 9)) for _ in different]
            start = Fraction(random_number(luck))
            table = {number: start + sum(steps[:rank]) for rank, number in enumerate(different)}
            other = [(name, pair_of(table[Fraction(text)])) for name, text in row]
            self.check(random_tree(luck, luck.randint(1, 8)), pairs_of(row), other)

    def test_plants(self):
        luck = lucky(88)
        for _ in range(60):
            devices = [random_device(luck)]
            questions = (write_question(random_tree(luck, 2)),)
            try:
                plant = Plant(("a", "b"), devices, questions)
            except ValueError:
                continue
            row = random_row(luck, 6)
            table = {text: str(Fraction(text) * 7 / 3 - 5) for _, text in row}
            other = [(name, table[text]) for name, text in row]
            for end in range(len(row) + 1):
                _, shape, numbers = plant.point(row[:end])
                self.assertEqual(plant.point(other[:end]), ("point", shape, tuple(table[text] for text in numbers)))
                first, second = plant.look(row[:end]), plant.look(other[:end])
                table[None] = None
                self.assertEqual(second["answers"], tuple(table[answer] for answer in first["answers"]))
                self.assertEqual((second["mine"], second["possible"]), (first["mine"], first["possible"]))


if __name__ == "__main__":
    unittest.main()
