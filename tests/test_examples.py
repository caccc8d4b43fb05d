"""The document's examples, row by row."""

import re
import unittest

from tests.session import run

ONE_PASSAGE = """
    create()                    -> 0
    add_area(5, 0)              -> 0
    add_area(0, 1)              -> 1
    add_passage(0, 1, 2, 1)     -> 0
    max_evacuated(1)            -> 2
    earliest_evacuation()       -> 3
    min_cut(1)                  -> 2, 0, 2
    critical_passages()         -> 1, 0
    max_people(0, 3)            -> 6
    is_valid_plan([0, 0, 2, 0, 1, 2, 0, 2, 1])        -> 1
    evacuated_by_plan(3, [0, 0, 2, 0, 1, 2, 0, 2, 1]) -> 5
"""

A_CORRIDOR = """
    create()                    -> 0
    add_area(3, 0)              -> 0
    add_area(0, 0)              -> 1
    add_area(0, 1)              -> 2
    add_passage(0, 1, 3, 1)     -> 0
    add_passage(1, 2, 1, 1)     -> 1
    max_evacuated(2)            -> 1
    earliest_evacuation()       -> 4
    earliest_if_capacity(1, 3)  -> 2
    min_remaining(2)            -> 2
    outgoing_passages(0)        -> 1, 0
"""

ERRORS = """
    create()                 -> 0
    add_area(21, 0)          -> -22
    add_area(3, 0)           -> 0
    earliest_evacuation()    -> -33
    add_passage(0, 0, 1, 1)  -> -22
    is_valid_plan([0, 0, 1]) -> 0
    is_valid_plan([0, 0])    -> -22
"""


def arguments_of(text):
    """Numbers and lists, from a text such as "3, [0, 0, 2]"."""
    found = []
    for word in re.findall(r"\[[^]]*\]|\d+", text):
        numbers = [int(digits) for digits in re.findall(r"\d+", word)]
        found.append(numbers if word.startswith("[") else numbers[0])
    return found


class TestExamples(unittest.TestCase):
    def check(self, block, row_count):
        rows = re.findall(r"(\w+)\((.*)\) +-> (.*)", block)
        self.assertEqual(len(rows), row_count)
        calls = [(name, *arguments_of(text)) for name, text, _ in rows]
        expected = [[int(number) for number in answer.split(",")] for _, _, answer in rows]
        for row, found, wanted in zip(rows, run(*calls), expected):
            self.assertEqual(found, wanted, row)

    def test_one_passage(self):
        self.check(ONE_PASSAGE, 11)

    def test_a_corridor(self):
        self.check(A_CORRIDOR, 11)

    def test_errors(self):
        self.check(ERRORS, 7)

    def test_rows_are_read_as_they_stand(self):
        self.assertEqual(arguments_of("3, [0, 12], []"), [3, [0, 12], []])
        self.assertEqual(arguments_of(""), [])


if __name__ == "__main__":
    unittest.main()
