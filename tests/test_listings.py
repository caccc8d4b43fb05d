"""Operations 8, 9, 21 and 22: what a building has."""

import unittest

from tests.samples import AREA_LIST, AREAS, BUILDING, FULL_AREAS, FULL_PASSAGES, PASSAGE_LIST, PASSAGES
from tests.session import LARGEST, answers_of, last, run, seen


class TestLists(unittest.TestCase):
    def test_areas(self):
        self.assertEqual(last(("create",), ("list_areas",)), [0])
        self.assertEqual(last(*BUILDING, ("list_areas",)), AREA_LIST)
        self.assertEqual(last(*FULL_AREAS, ("list_areas",)), [5, 0, 0, 1, 0, 2, 0, 3, 0, 4, 0])

    def test_passages(self):
        self.assertEqual(last(("create",), ("list_passages",)), [0])
        self.assertEqual(last(*BUILDING, ("list_passages",)), PASSAGE_LIST)
        self.assertEqual(len(last(*FULL_PASSAGES, ("list_passages",))), 33)

    def test_people_and_exits_do_not_touch_the_passages(self):
        found = seen(*BUILDING, ("set_people", 0, 1), ("set_exit", 0, 1), ("add_area", 2, 0))
        self.assertEqual(found, [[4, 1, 1, 0, 1, 20, 0, 2, 0], PASSAGE_LIST, [4, 3, 23]])


class TestOutgoingPassages(unittest.TestCase):
    def outgoing(self, areas, passages):
        return answers_of(areas, passages, *[("outgoing_passages", area) for area in range(len(areas))])

    def test_the_passages_whose_source_it_is(self):
        self.assertEqual(self.outgoing(AREAS, PASSAGES), [[2, 0, 2], [1, 1], [0]])
        self.assertEqual(self.outgoing(AREAS, []), [[0], [0], [0]])

    def test_an_exit_may_have_some_too(self):
        self.assertEqual(self.outgoing([(1, 1), (1, 1)], [(0, 1, 1, 1), (1, 0, 1, 1)]), [[1, 0], [1, 1]])

    def test_all_eight_in_increasing_order(self):
        self.assertEqual(last(*FULL_PASSAGES, ("outgoing_passages", 0)), [8, 0, 1, 2, 3, 4, 5, 6, 7])
        self.assertEqual(last(*FULL_PASSAGES, ("outgoing_passages", 1)), [0])

    def test_numbers_are_those_of_now(self):
        found = run(*BUILDING, ("remove_passage", 0), ("outgoing_passages", 0), ("outgoing_passages", 1),
                    ("reverse_passages",), ("outgoing_passages", 0), ("outgoing_passages", 1),
                    ("outgoing_passages", 2))
        self.assertEqual(found[len(BUILDING):], [[2], [1, 1], [1, 0], [2], [0], [1, 1], [1, 0]])

    def test_no_such_area(self):
        for area in (3, 4, 5, LARGEST):
            self.assertEqual(last(*BUILDING, ("outgoing_passages", area)), [-2])
            self.assertEqual(seen(*BUILDING, ("outgoing_passages", area)), seen(*BUILDING))
        self.assertEqual(last(("create",), ("outgoing_passages", 0)), [-2])


class TestGetState(unittest.TestCase):
    def test_areas_passages_and_people(self):
        self.assertEqual(last(("create",), ("get_state",)), [0, 0, 0])
        self.assertEqual(last(*BUILDING, ("get_state",)), [3, 3, 25])
        self.assertEqual(last(*FULL_AREAS, ("get_state",)), [5, 0, 10])
        self.assertEqual(last(*FULL_PASSAGES, ("get_state",)), [2, 8, 5])

    def test_people_in_exits_count(self):
        self.assertEqual(answers_of([(20, 1)] * 5, [], ("get_state",)), [[5, 0, 100]])

    def test_behind_each_change(self):
        changes = [("add_area", 7, 1), ("set_people", 0, 1), ("set_exit", 0, 1), ("add_passage", 2, 0, 1, 1),
                   ("remove_passage", 0), ("set_capacity", 0, 1), ("reverse_passages",), ("create",)]
        calls = []
        for call in changes:
            calls.extend([call, ("get_state",)])
        self.assertEqual(answers_of(AREAS, PASSAGES, *calls)[1::2], [
            [4, 3, 32], [4, 3, 28], [4, 3, 28], [4, 4, 28], [4, 3, 28], [4, 3, 28], [4, 3, 28], [0, 0, 0],
        ])


if __name__ == "__main__":
    unittest.main()
