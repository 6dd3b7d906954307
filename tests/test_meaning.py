"""Point 7 of the document: keeproom/meaning.py."""

import copy
import unittest

from keeproom.meaning import meaning
from keeproom.numbers import write_number
from keeproom.questions import parts, read_question
from tests.oracles import fractions_of, lucky, means, pair_of, pairs_of, random_row, random_tree

NAMES = ("a", "b", "c")
ROW = [("a", "1"), ("b", "1"), ("a", "-2"), ("b", "1/2"), ("a", "3"), ("a", "1")]
# What is answered after each record of ROW, worked out by hand; - stands for nothing.
ANSWERS = {
    "now": "1 1 -2 1/2 3 1",
    "nothing": "- - - - - -",
    "is(a)": "1 - -2 - 3 1",
    "is(b)": "- 1 - 1/2 - -",
    "is(c)": "- - - - - -",
    "less(now,before(now))": "- - -2 - - 1",
    "less(before(now),now)": "- - - -2 1/2 -",
    "less(now,last(is(b)))": "- - -2 - - -",
    "less(now,now)": "- - - - - -",
    "less(nothing,now)": "- - - - - -",
    "less(now,nothing)": "- - - - - -",
    "same(now,before(now))": "- 1 - - - -",
    "same(now,first(now))": "1 1 - - - 1",
    "same(now,now)": "1 1 -2 1/2 3 1",
    "same(nothing,nothing)": "- - - - - -",
    "same(now,is(b))": "- 1 - 1/2 - -",
    "if(is(b),nothing,now)": "1 - -2 - 3 1",
    "if(is(b),now,before(now))": "- 1 1 1/2 1/2 3",
    "if(nothing,now,is(a))": "1 - -2 - 3 1",
    "last(now)": "1 1 -2 1/2 3 1",
    "last(is(b))": "- 1 1 1/2 1/2 1/2",
    "last(nothing)": "- - - - - -",
    "first(now)": "1 1 1 1 1 1",
    "first(is(b))": "- 1 1 1 1 1",
    "first(is(c))": "- - - - - -",
    "before(now)": "- 1 1 -2 1/2 3",
    "before(is(b))": "- - 1 - 1/2 -",
    "before(before(now))": "- - 1 1 -2 1/2",
    "before(last(is(b)))": "- - 1 1 1/2 1/2",
    "great(1,now)": "1 1 1 1 3 3",
    "great(2,now)": "- - -2 1/2 1 1",
    "great(1,is(b))": "- 1 1 1 1 1",
    "great(2,is(b))": "- - - 1/2 1/2 1/2",
    "great(1,nothing)": "- - - - - -",
    "least(1,now)": "1 1 -2 -2 -2 -2",
    "least(2,now)": "- - 1 1/2 1/2 1/2",
    "least(1,is(b))": "- 1 1 1/2 1/2 1/2",
    "least(2,is(b))": "- - - 1 1 1",
    "times(1,now)": "1 1 -2 1/2 3 1",
    "times(2,now)": "- 1 -2 1/2 3 1",
    "times(1,is(b))": "- 1 -2 1/2 3 1",
    "times(2,is(b))": "- - - 1/2 3 1",
    "times(3,is(b))": "- - - - - -",
    "times(3,is(a))": "- - - - 3 1",
    "times(1,nothing)": "- - - - - -",
    "circle(2,0,is(a))": "- - -2 1/2 - 1",
    "circle(2,1,is(a))": "1 1 - - 3 -",
    "circle(3,0,is(a))": "- - - - 3 -",
    "circle(3,1,is(a))": "1 1 - - - 1",
    "circle(3,2,is(a))": "- - -2 1/2 - -",
    "circle(2,0,is(b))": "1 - - 1/2 3 1",
    "circle(2,1,is(b))": "- 1 -2 - - -",
    "circle(3,0,nothing)": "1 1 -2 1/2 3 1",
    "circle(3,1,nothing)": "- - - - - -",
    "since(nothing,great(1,now))": "1 1 1 1 3 3",
    "since(is(b),now)": "1 - -2 - 3 1",
    "since(is(a),now)": "- 1 - 1/2 - -",
    "since(now,now)": "- - - - - -",
    "since(is(b),great(1,now))": "1 - -2 - 3 3",
    "since(is(b),before(now))": "- - - - - 3",
    "since(is(b),times(2,now))": "- - - - - 1",
    "since(less(now,before(now)),before(now))": "- 1 - - 1/2 -",
    "among(now,great(2,now))": "- - -2 1/2 1 1",
    "among(nothing,now)": "- - - - - -",
    "among(is(b),now)": "- 1 1 1/2 1/2 1/2",
    "among(is(a),now)": "1 1 -2 -2 3 1",
    "among(is(a),is(b))": "- - - - - -",
    "among(is(a),before(now))": "- - 1 1 -2 3",
    "among(is(a),times(2,now))": "- - -2 -2 3 1",
    "among(is(b),circle(2,0,now))": "- - - 1/2 1/2 1/2",
    "among(is(b),circle(3,0,nothing))": "- 1 1 1/2 1/2 1/2",
    "among(less(now,before(now)),great(1,now))": "- - -2 -2 -2 1",
    # since, among and before in each other: B, and what stands in it, looks at the records that are left.
    "before(since(is(b),now))": "- 1 - -2 - 3",
    "before(among(is(b),now))": "- - 1 1 1/2 1/2",
    "since(is(b),among(is(a),great(1,now)))": "1 - -2 - 3 3",
    "since(since(is(b),now),now)": "- 1 - 1/2 - -",
    "since(among(is(b),now),now)": "1 - - - - -",
    "since(nothing,since(is(b),great(1,now)))": "1 - -2 - 3 3",
    "among(is(a),since(less(now,before(now)),now))": "1 1 - - 3 -",
    "among(is(a),among(less(now,before(now)),now))": "- - -2 -2 -2 1",
    "among(since(is(b),now),least(1,now))": "1 1 -2 -2 -2 -2",
    "among(before(is(b)),now)": "- - -2 -2 3 3",
    "since(before(is(b)),now)": "1 1 - 1/2 - 1",
    "among(is(a),before(before(now)))": "- - - - 1 -2",
}


def answers(text, row):
    """What the question answers after each record of the row."""
    tree = read_question(text, NAMES)
    row = pairs_of(row)
    found = [meaning(tree, row[:end]) for end in range(1, len(row) + 1)]
    return " ".join("-" if answer is None else write_number(answer) for answer in found)


class MeaningTest(unittest.TestCase):
    def test_each_form_record_by_record(self):
        for text, expected in ANSWERS.items():
            with self.subTest(text):
                self.assertEqual(answers(text, ROW), expected)

    def test_each_form_is_among_them(self):
        words = {read_question(text, NAMES)[0] for text in ANSWERS}
        self.assertEqual(len(words), 15)

    def test_the_empty_row(self):
        for text in ANSWERS:
            self.assertIsNone(meaning(read_question(text, NAMES), []), text)

    def test_equal_numbers(self):
        row = [("a", "2"), ("b", "2"), ("a", "2")]
        for text, expected in (
                ("great(1,now)", "2 2 2"), ("great(2,now)", "- - -"), ("least(2,now)", "- - -"), ("least(1,now)", "2 2 2"),
                ("times(3,now)", "- - 2"), ("same(is(a),before(now))", "- - 2"), ("less(now,before(now))", "- - -"),
                ("circle(3,0,now)", "- - 2"), ("among(same(now,before(now)),times(2,now))", "- - 2")):
            self.assertEqual(answers(text, row), expected, text)

    def test_fractions_and_numbers_below_0_are_compared_as_numbers(self):
        row = [("a", "1/2"), ("a", "1/3"), ("a", "-1/2"), ("a", "-1/3"), ("a", "10"), ("a", "9"), ("a", "999999999999")]
        self.assertEqual(answers("great(1,now)", row), "1/2 1/2 1/2 1/2 10 10 999999999999")
        self.assertEqual(answers("great(2,now)", row), "- 1/3 1/3 1/3 1/2 9 10")
        self.assertEqual(answers("least(1,now)", row), "1/2 1/3 -1/2 -1/2 -1/2 -1/2 -1/2")
        self.assertEqual(answers("least(2,now)", row), "- 1/2 1/3 -1/3 -1/3 -1/3 -1/3")
        self.assertEqual(answers("less(before(now),now)", row), "- - - -1/2 -1/3 - 9")

    def test_an_answer_is_a_pair(self):
        self.assertEqual(meaning(("now",), [("a", (-7, 2))]), (-7, 2))

    def test_the_row_is_as_it_was(self):
        for text in ANSWERS:
            tree = read_question(text, NAMES)
            row = pairs_of(ROW)
            before = copy.deepcopy(row)
            first = meaning(tree, row)
            self.assertEqual(row, before)
            self.assertEqual(meaning(tree, row), first)

    def test_against_the_definitions_read_literally(self):
        luck = lucky(7)
        for _ in range(1500):
            tree = random_tree(luck, luck.randint(1, 6))
            row = random_row(luck, luck.randint(1, 6))
            self.assertEqual(meaning(tree, pairs_of(row)), pair_of(means(tree, fractions_of(row))), (tree, row))

    def test_a_long_row(self):
        row = [("a", (number, 1)) for number in range(3000)]
        self.assertEqual(meaning(("great", 2, ("now",)), row), (2998, 1))
        self.assertEqual(meaning(("before", ("before", ("first", ("now",)))), row), (0, 1))
        self.assertIsNone(meaning(("since", ("now",), ("now",)), row))

    def test_a_deep_question(self):
        for opening, middle, closing in (
                ("last(", "now", ")"), ("since(nothing,", "now", ")"), ("among(now,", "now", ")"),
                ("if(now,", "now", ",now)")):
            count = 397 // len(opening + closing)
            text = opening * count + middle + closing * count
            tree = read_question(text, NAMES)
            self.assertGreater(parts(tree), 22)
            self.assertEqual(meaning(tree, [("a", (1, 1)), ("b", (3, 2))]), (3, 2))


if __name__ == "__main__":
    unittest.main()
