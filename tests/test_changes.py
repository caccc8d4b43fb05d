"""Operations 1 to 7: what they answer, what they change, and their errors in order."""

import unittest

from tests.samples import AREA_LIST, BUILDING, FULL_AREAS, FULL_PASSAGES, PASSAGE_LIST
from tests.session import LARGEST, building_calls, last, listed, run


class ChangeCase(unittest.TestCase):
    def refused(self, start, call, code):
        """The call answers the code alone and changes nothing."""
        self.assertEqual(last(*start, call), [code], call)
        self.assertEqual(listed(*start, call), listed(*start), call)

    def changed(self, call, answer, areas, passages):
        self.assertEqual(last(*BUILDING, call), [answer], call)
        self.assertEqual(listed(*BUILDING, call), [areas, passages], call)


class TestAddArea(ChangeCase):
    def test_areas_are_numbered_from_0(self):
        self.assertEqual(run(*FULL_AREAS)[1:], [[0], [1], [2], [3], [4]])

    def test_edges_of_people(self):
        self.assertEqual(listed(("create",), ("add_area", 0, 0)), [[1, 0, 0], [0]])
        self.assertEqual(listed(("create",), ("add_area", 20, 0)), [[1, 20, 0], [0]])
        for people in (21, 22, 65536, LARGEST):
            self.refused(BUILDING, ("add_area", people, 0), -22)

    def test_edges_of_is_exit(self):
        self.assertEqual(listed(("create",), ("add_area", 3, 0)), [[1, 3, 0], [0]])
        self.assertEqual(listed(("create",), ("add_area", 3, 1)), [[1, 3, 1], [0]])
        for is_exit in (2, 3, 256, LARGEST):
            self.refused(BUILDING, ("add_area", 3, is_exit), -22)

    def test_the_sixth_area(self):
        self.assertEqual(last(*FULL_AREAS[:-1], ("add_area", 20, 1)), [4])
        self.refused(FULL_AREAS, ("add_area", 0, 0), -28)
        self.refused(FULL_AREAS, ("add_area", 20, 1), -28)

    def test_the_range_comes_ahead_of_the_number(self):
        self.refused(FULL_AREAS, ("add_area", 21, 0), -22)
        self.refused(FULL_AREAS, ("add_area", 0, 2), -22)
        self.refused(FULL_AREAS, ("add_area", LARGEST, LARGEST), -22)

    def test_a_refused_area_takes_no_number(self):
        self.assertEqual(run(("create",), ("add_area", 21, 0), ("add_area", 3, 0)), [[0], [-22], [0]])


class TestSetPeople(ChangeCase):
    def test_answers_the_previous_number(self):
        self.changed(("set_people", 0, 7), 5, [3, 7, 0, 0, 1, 20, 0], PASSAGE_LIST)
        self.changed(("set_people", 1, 20), 0, [3, 5, 0, 20, 1, 20, 0], PASSAGE_LIST)
        self.changed(("set_people", 2, 0), 20, [3, 5, 0, 0, 1, 0, 0], PASSAGE_LIST)
        self.assertEqual(run(*BUILDING, ("set_people", 0, 7), ("set_people", 0, 7))[-2:], [[5], [7]])

    def test_no_such_area(self):
        for area in (3, 4, 5, LARGEST):
            self.refused(BUILDING, ("set_people", area, 1), -2)
        self.refused([("create",)], ("set_people", 0, 1), -2)

    def test_too_many_people(self):
        for people in (21, LARGEST):
            self.refused(BUILDING, ("set_people", 2, people), -22)

    def test_the_area_comes_ahead_of_the_range(self):
        self.refused(BUILDING, ("set_people", 3, 21), -2)
        self.refused(BUILDING, ("set_people", LARGEST, LARGEST), -2)


class TestSetExit(ChangeCase):
    def test_answers_the_previous_value(self):
        self.changed(("set_exit", 0, 1), 0, [3, 5, 1, 0, 1, 20, 0], PASSAGE_LIST)
        self.changed(("set_exit", 1, 0), 1, [3, 5, 0, 0, 0, 20, 0], PASSAGE_LIST)
        self.changed(("set_exit", 1, 1), 1, AREA_LIST, PASSAGE_LIST)
        self.assertEqual(run(*BUILDING, ("set_exit", 2, 1), ("set_exit", 2, 0))[-2:], [[0], [1]])

    def test_no_such_area(self):
        for area in (3, 4, 5, LARGEST):
            self.refused(BUILDING, ("set_exit", area, 1), -2)
        self.refused([("create",)], ("set_exit", 0, 0), -2)

    def test_neither_0_nor_1(self):
        for is_exit in (2, LARGEST):
            self.refused(BUILDING, ("set_exit", 2, is_exit), -22)

    def test_the_area_comes_ahead_of_the_range(self):
        self.refused(BUILDING, ("set_exit", 3, 2), -2)


class TestAddPassage(ChangeCase):
    def test_passages_are_numbered_from_0(self):
        self.assertEqual(run(*FULL_PASSAGES)[3:], [[number] for number in range(8)])

    def test_several_between_the_same_areas(self):
        self.changed(("add_passage", 0, 1, 2, 1), 3, AREA_LIST, [4, *PASSAGE_LIST[1:], 0, 1, 2, 1])
        self.changed(("add_passage", 1, 0, 2, 1), 3, AREA_LIST, [4, *PASSAGE_LIST[1:], 1, 0, 2, 1])

    def test_no_such_area(self):
        for area in (3, 4, 5, LARGEST):
            self.refused(BUILDING, ("add_passage", area, 0, 1, 1), -2)
            self.refused(BUILDING, ("add_passage", 0, area, 1, 1), -2)
            self.refused(BUILDING, ("add_passage", area, area, 1, 1), -2)
        self.refused([("create",)], ("add_passage", 0, 1, 1, 1), -2)

    def test_source_and_target_the_same(self):
        for area in range(3):
            self.refused(BUILDING, ("add_passage", area, area, 1, 1), -22)

    def test_edges_of_capacity(self):
        for capacity in (1, 9):
            self.changed(
                ("add_passage", 2, 1, capacity, 1), 3, AREA_LIST, [4, *PASSAGE_LIST[1:], 2, 1, capacity, 1])
        for capacity in (0, 10, LARGEST):
            self.refused(BUILDING, ("add_passage", 2, 1, capacity, 1), -22)

    def test_edges_of_travel_time(self):
        for travel_time in (1, 2, 3):
            self.changed(
                ("add_passage", 2, 1, 1, travel_time), 3, AREA_LIST, [4, *PASSAGE_LIST[1:], 2, 1, 1, travel_time])
        for travel_time in (0, 4, LARGEST):
            self.refused(BUILDING, ("add_passage", 2, 1, 1, travel_time), -22)

    def test_the_ninth_passage(self):
        self.assertEqual(last(*FULL_PASSAGES[:-1], ("add_passage", 1, 0, 9, 3)), [7])
        self.refused(FULL_PASSAGES, ("add_passage", 1, 0, 9, 3), -28)

    def test_order_of_the_errors(self):
        self.refused(BUILDING, ("add_passage", 3, 3, 0, 0), -2)
        self.refused(BUILDING, ("add_passage", 0, LARGEST, 10, 4), -2)
        self.refused(FULL_PASSAGES, ("add_passage", 2, 0, 1, 1), -2)
        self.refused(FULL_PASSAGES, ("add_passage", 0, 2, 0, 1), -2)
        self.refused(FULL_PASSAGES, ("add_passage", 0, 0, 1, 1), -22)
        self.refused(FULL_PASSAGES, ("add_passage", 0, 1, 10, 1), -22)
        self.refused(FULL_PASSAGES, ("add_passage", 0, 1, 1, 4), -22)


class TestRemovePassage(ChangeCase):
    def test_later_numbers_decrease_by_1(self):
        self.changed(("remove_passage", 0), 2, AREA_LIST, [2, 1, 2, 9, 3, 0, 1, 4, 2])
        self.changed(("remove_passage", 1), 2, AREA_LIST, [2, 0, 1, 2, 1, 0, 1, 4, 2])
        self.changed(("remove_passage", 2), 2, AREA_LIST, [2, 0, 1, 2, 1, 1, 2, 9, 3])

    def test_the_new_numbers_are_the_ones_that_count(self):
        found = run(*BUILDING, ("remove_passage", 0), ("set_capacity", 0, 5), ("set_capacity", 1, 6),
                    ("set_capacity", 2, 7), ("add_passage", 2, 0, 1, 1), ("list_passages",))
        self.assertEqual(found[-5:], [[9], [4], [-2], [2], [3, 1, 2, 5, 3, 0, 1, 6, 2, 2, 0, 1, 1]])

    def test_one_by_one_until_none_is_left(self):
        found = run(*BUILDING, *[("remove_passage", 0)] * 4, ("list_passages",))
        self.assertEqual(found[-5:], [[2], [1], [0], [-2], [0]])

    def test_of_equal_passages_one(self):
        twice = building_calls([(5, 0), (0, 1)], [(0, 1, 2, 1), (0, 1, 2, 1)])
        self.assertEqual(run(*twice, ("remove_passage", 1), ("list_passages",))[-2:], [[1], [1, 0, 1, 2, 1]])

    def test_no_such_passage(self):
        for passage in (3, 8, LARGEST):
            self.refused(BUILDING, ("remove_passage", passage), -2)
        self.refused([("create",)], ("remove_passage", 0), -2)

    def test_room_for_another_one(self):
        found = run(*FULL_PASSAGES, ("remove_passage", 3), *[("add_passage", 1, 0, 1, 1)] * 2)
        self.assertEqual(found[-3:], [[7], [7], [-28]])


class TestSetCapacity(ChangeCase):
    def test_answers_the_previous_capacity(self):
        self.changed(("set_capacity", 0, 1), 2, AREA_LIST, [3, 0, 1, 1, 1, *PASSAGE_LIST[5:]])
        self.changed(("set_capacity", 2, 9), 4, AREA_LIST, [*PASSAGE_LIST[:11], 9, 2])
        self.assertEqual(run(*BUILDING, ("set_capacity", 1, 3), ("set_capacity", 1, 4))[-2:], [[9], [3]])

    def test_no_such_passage(self):
        for passage in (3, 8, LARGEST):
            self.refused(BUILDING, ("set_capacity", passage, 1), -2)

    def test_out_of_range(self):
        for capacity in (0, 10, LARGEST):
            self.refused(BUILDING, ("set_capacity", 0, capacity), -22)

    def test_the_passage_comes_ahead_of_the_range(self):
        self.refused(BUILDING, ("set_capacity", 3, 0), -2)
        self.refused(BUILDING, ("set_capacity", LARGEST, 10), -2)


class TestReversePassages(ChangeCase):
    def test_source_and_target_change_places(self):
        self.changed(("reverse_passages",), 3, AREA_LIST, [3, 1, 0, 2, 1, 2, 1, 9, 3, 1, 0, 4, 2])

    def test_twice_is_as_before(self):
        self.assertEqual(listed(*BUILDING, *[("reverse_passages",)] * 2), [AREA_LIST, PASSAGE_LIST])

    def test_without_passages(self):
        self.assertEqual(run(("create",), ("reverse_passages",), ("list_passages",)), [[0], [0], [0]])

    def test_the_evacuation_goes_the_other_way(self):
        calls = [("max_evacuated", 1), ("reverse_passages",), ("max_evacuated", 1), ("set_exit", 1, 0),
                 ("set_exit", 0, 1), ("max_evacuated", 1)]
        start = building_calls([(3, 0), (2, 1)], [(0, 1, 1, 1)])
        self.assertEqual(run(*start, *calls)[4:], [[3], [1], [2], [1], [0], [4]])


if __name__ == "__main__":
    unittest.main()
