"""The form of the calls and of their answers, -11, create, and that nothing is kept."""

import unittest

from buildingexits.planner import answers
from tests.session import LARGEST, LISTINGS, NAMES, building_calls, listed, run, split, written

# One call of each operation, by its number.
EACH = (
    ("create",), ("add_area", 5, 0), ("set_people", 0, 4), ("set_exit", 0, 1), ("add_passage", 0, 1, 2, 1),
    ("remove_passage", 0), ("set_capacity", 0, 3), ("reverse_passages",), ("list_areas",), ("list_passages",),
    ("max_evacuated", 1), ("min_remaining", 1), ("earliest_evacuation",), ("min_cut", 1),
    ("cut_capacity", 1, [0, 2]), ("is_valid_plan", [0, 0, 2, 0, 1, 2]), ("evacuated_by_plan", 3, [0, 0, 2]),
    ("earliest_if_capacity", 0, 3), ("earliest_if_people", 0, 3), ("max_people", 0, 3),
    ("critical_passages",), ("outgoing_passages", 0), ("get_state",),
)

BUILDING = building_calls([(5, 0), (0, 1)], [(0, 1, 2, 1)])


class TestForm(unittest.TestCase):
    def test_numbers_of_the_calls_and_of_the_answers(self):
        calls = [0, 1, 5, 0, 1, 0, 1, 4, 0, 1, 2, 1, 10, 1, 11, 1, 8, 9, 2, 0, 6, 3, 0, 1, 6, 0, 3, 7, 5, 0]
        self.assertEqual(answers(calls), [
            1, 0, 1, 0, 1, 1, 1, 0, 1, 2, 1, 3, 5, 2, 5, 0, 0, 1, 5, 1, 0, 1, 2, 1, 1, 5, 1, 0, 1, 2, 1, 1, 1, 0,
        ])

    def test_an_error_is_its_code_alone(self):
        self.assertEqual(answers([0, 1, 21, 0, 8]), [1, 0, 1, -22, 1, 0])

    def test_one_call(self):
        self.assertEqual(answers([0]), [1, 0])
        self.assertEqual(answers([8]), [1, -11])

    def test_each_operation_has_its_place_in_the_list(self):
        for number, call in enumerate(EACH):
            self.assertEqual(NAMES[number], call[0])
            found = run(*BUILDING, call, ("create",), ("add_area", 7, 1), ("list_areas",))
            self.assertEqual(found[-3:], [[0], [0], [1, 7, 1]], call)

    def test_lists_of_every_length_are_passed_over(self):
        for length in range(49):
            calls = [("is_valid_plan", [65535] * length), ("evacuated_by_plan", 2, [1] * length)]
            if length <= 8:
                calls.append(("cut_capacity", 2, [4] * length))
            found = run(*BUILDING, *calls, ("list_areas",))
            self.assertEqual(found[-1], [2, 5, 0, 0, 1], length)

    def test_answers_are_plain_whole_numbers(self):
        for number in answers(written([*BUILDING, *LISTINGS, ("max_evacuated", 5), ("min_remaining", 5)])):
            self.assertIs(type(number), int)

    def test_256_calls(self):
        calls = [*BUILDING, *[("max_evacuated", 5)] * 252]
        self.assertEqual(run(*calls)[4:], [[5]] * 252)


class TestNoPlanner(unittest.TestCase):
    def test_every_operation_ahead_of_a_create(self):
        for call in EACH[1:]:
            self.assertEqual(run(call, ("create",), ("list_areas",)), [[-11], [0], [0]], call)

    def test_all_of_them_in_one_session(self):
        self.assertEqual(run(*EACH[1:]), [[-11]] * 22)

    def test_ahead_of_every_other_error(self):
        wrong = (
            ("add_area", LARGEST, LARGEST), ("set_people", LARGEST, LARGEST), ("set_exit", LARGEST, LARGEST),
            ("add_passage", LARGEST, LARGEST, LARGEST, LARGEST), ("remove_passage", LARGEST),
            ("set_capacity", LARGEST, LARGEST), ("max_evacuated", LARGEST), ("min_remaining", LARGEST),
            ("min_cut", LARGEST), ("cut_capacity", LARGEST, []), ("cut_capacity", 0, [65535] * 8),
            ("is_valid_plan", [65535] * 48), ("evacuated_by_plan", LARGEST, [1]),
            ("earliest_if_capacity", LARGEST, LARGEST), ("earliest_if_people", LARGEST, LARGEST),
            ("max_people", LARGEST, LARGEST), ("outgoing_passages", LARGEST),
        )
        for call in wrong:
            self.assertEqual(run(call), [[-11]], call)

    def test_what_was_refused_was_not_done(self):
        self.assertEqual(listed(("add_area", 5, 0), ("create",)), [[0], [0]])


class TestCreate(unittest.TestCase):
    def test_without_areas_and_passages(self):
        self.assertEqual(run(("create",), *LISTINGS), [[0], [0], [0]])

    def test_a_second_create_replaces_the_planner(self):
        self.assertEqual(listed(*BUILDING, ("create",)), [[0], [0]])
        self.assertEqual(run(*BUILDING, ("create",), ("max_evacuated", 5), ("min_remaining", 5))[-2:], [[0], [0]])

    def test_numbers_begin_anew(self):
        self.assertEqual(run(*BUILDING, *BUILDING)[4:], [[0], [0], [1], [0]])

    def test_room_for_all_areas_and_passages_anew(self):
        full = building_calls([(1, 0)] * 5, [(0, 1, 1, 1)] * 8)
        found = run(*full, *full)
        self.assertEqual(found[14:], found[:14])
        self.assertEqual(found[-1], [7])


class TestNothingIsKept(unittest.TestCase):
    def test_what_is_handed_in_is_unchanged(self):
        calls = written([*BUILDING, *EACH[1:], *EACH])
        before = list(calls)
        answers(calls)
        self.assertEqual(calls, before)

    def test_a_second_time_is_as_the_first(self):
        calls = written([*BUILDING, *EACH[1:], ("set_people", 0, 9), *LISTINGS])
        self.assertEqual(answers(calls), answers(calls))

    def test_no_planner_is_left_for_the_next_time(self):
        run(*BUILDING)
        self.assertEqual(run(("list_areas",), ("max_evacuated", 0)), [[-11], [-11]])

    def test_what_is_given_back_is_the_callers_own(self):
        calls = written([*BUILDING, *LISTINGS])
        first = answers(calls)
        kept = list(first)
        first.clear()
        self.assertEqual(answers(calls), kept)


class TestQueriesArePure(unittest.TestCase):
    def test_a_query_leaves_the_state_unchanged(self):
        before = listed(*BUILDING)
        for call in EACH[8:]:
            self.assertEqual(listed(*BUILDING, call, call), before, call)

    def test_a_query_answers_the_same_again(self):
        queries = [*LISTINGS, ("max_evacuated", 2), ("min_remaining", 2)]
        found = run(*BUILDING, *queries, *reversed(queries))
        self.assertEqual(found[4:8], list(reversed(found[8:])))


class TestHelpers(unittest.TestCase):
    def test_a_short_answer_is_noticed(self):
        self.assertRaises(ValueError, split, [1, 0, 2, 5])


if __name__ == "__main__":
    unittest.main()
