"""The form of the calls and of their answers, -11, create, and that nothing is kept."""

import unittest

from buildingexits.planner import answers
from tests.session import LARGEST, NAMES, STATE, building_calls, run, seen, split, written

# One call of each operation, by its number.
EACH = (
    ("create",), ("add_area", 5, 0), ("set_people", 0, 4), ("set_exit", 0, 1), ("add_passage", 0, 1, 2, 1),
    ("remove_passage", 0), ("set_capacity", 0, 3), ("reverse_passages",), ("list_areas",), ("list_passages",),
    ("max_evacuated", 1), ("min_remaining", 1), ("earliest_evacuation",), ("min_cut", 1),
    ("cut_capacity", 1, [0, 2]), ("is_valid_plan", [0, 0, 2, 0, 1, 2]), ("evacuated_by_plan", 3, [0, 0, 2]),
    ("earliest_if_capacity", 0, 3), ("earliest_if_people", 0, 3), ("max_people", 0, 3),
    ("critical_passages",), ("outgoing_passages", 0), ("get_state",),
)

BUILDING = building_calls([(5, 0), (0, 1)], [(0, 1, 2, 1)])


class TestForm(unittest.TestCase):
    def test_numbers_of_the_calls_and_of_the_answers(self):
        calls = [0, 1, 5, 0, 1, 0, 1, 4, 0, 1, 2, 1, 10, 1, 11, 1, 8, 9, 2, 0, 6, 3, 0, 1, 6, 0, 3, 7, 5, 0]
        self.assertEqual(answers(calls), [
            1, 0, 1, 0, 1, 1, 1, 0, 1, 2, 1, 3, 5, 2, 5, 0, 0, 1, 5, 1, 0, 1, 2, 1, 1, 5, 1, 0, 1, 2, 1, 1, 1, 0,
        ])

    def test_an_error_is_its_code_alone(self):
        self.assertEqual(answers([0, 1, 21, 0, 8]), [1, 0, 1, -22, 1, 0])

    def test_one_call(self):
        self.assertEqual(answers([0]), [1, 0])
        self.assertEqual(answers([8]), [1, -11])

    def test_each_operation_has_its_place_in_the_list(self):
        for number, call in enumerate(EACH):
            self.assertEqual(NAMES[number], call[0])
            found = run(*BUILDING, call, ("create",), ("add_area", 7, 1), ("list_areas",))
            self.assertEqual(found[-3:], [[0], [0], [1, 7, 1]], call)

    def test_lists_of_every_length_are_passed_over(self):
        for length in range(49):
            calls = [("is_valid_plan", [65535] * length), ("evacuated_by_plan", 2, [1] * length)]
            if length <= 8:
                calls.append(("cut_capacity", 2, [4] * length))
            found = run(*BUILDING, *calls, ("list_areas",))
            self.assertEqual(found[-1], [2, 5, 0, 0, 1], length)

    def test_answers_are_plain_whole_numbers(self):
        for number in answers(written([*BUILDING, *EACH[8:], *EACH])):
            self.assertIs(type(number), int)

    def test_how_many_numbers_each_query_answers(self):
        found = run(*BUILDING, *EACH[8:])[len(BUILDING):]
        self.assertEqual([len(answer) for answer in found], [5, 5, 1, 1, 1, 3, 1, 1, 1, 1, 1, 1, 2, 2, 3])
        self.assertEqual(found, [
            [2, 5, 0, 0, 1], [1, 0, 1, 2, 1], [2], [3], [3], [2, 0, 2], [2], [1], [2], [2], [2], [6], [1, 0], [1, 0],
            [2, 1, 5]])

    def test_nothing_but_an_error_is_below_0(self):
        numbers = answers(written([*BUILDING, *EACH[8:], *EACH[1:8]]))
        self.assertEqual([number for number in numbers if number < 0], [])

    def test_256_calls(self):
        calls = [*BUILDING, *[("max_evacuated", 5)] * 252]
        self.assertEqual(run(*calls)[4:], [[5]] * 252)

    def test_256_calls_of_the_largest_building(self):
        start = building_calls([(20, 0)] * 4 + [(20, 1)], [(number % 4, 4, 9, 1) for number in range(8)])
        for call in (("critical_passages",), ("max_people", 0, 5), ("min_cut", 5), ("is_valid_plan", [0, 0, 1] * 12)):
            found = run(*start, *[call] * (256 - len(start)))
            self.assertEqual(found[-1], found[len(start)])


class TestNoPlanner(unittest.TestCase):
    def test_every_operation_ahead_of_a_create(self):
        for call in EACH[1:]:
            self.assertEqual(run(call, ("create",), ("list_areas",)), [[-11], [0], [0]], call)

    def test_all_of_them_in_one_session(self):
        self.assertEqual(run(*EACH[1:]), [[-11]] * 22)

    def test_ahead_of_every_other_error(self):
        wrong = (
            ("add_area", LARGEST, LARGEST), ("set_people", LARGEST, LARGEST), ("set_exit", LARGEST, LARGEST),
            ("add_passage", LARGEST, LARGEST, LARGEST, LARGEST), ("remove_passage", LARGEST),
            ("set_capacity", LARGEST, LARGEST), ("max_evacuated", LARGEST), ("min_remaining", LARGEST),
            ("min_cut", LARGEST), ("cut_capacity", LARGEST, []), ("cut_capacity", 0, [65535] * 8),
            ("is_valid_plan", [65535] * 48), ("evacuated_by_plan", LARGEST, [1]),
            ("earliest_if_capacity", LARGEST, LARGEST), ("earliest_if_people", LARGEST, LARGEST),
            ("max_people", LARGEST, LARGEST), ("outgoing_passages", LARGEST),
        )
        for call in wrong:
            self.assertEqual(run(call), [[-11]], call)

    def test_what_was_refused_was_not_done(self):
        self.assertEqual(seen(("add_area", 5, 0), ("create",)), [[0], [0], [0, 0, 0]])


class TestCreate(unittest.TestCase):
    def test_without_areas_and_passages(self):
        self.assertEqual(seen(("create",)), [[0], [0], [0, 0, 0]])

    def test_a_second_create_replaces_the_planner(self):
        self.assertEqual(seen(*BUILDING, ("create",)), [[0], [0], [0, 0, 0]])
        self.assertEqual(run(*BUILDING, ("create",), ("max_evacuated", 5), ("min_remaining", 5))[-2:], [[0], [0]])

    def test_numbers_begin_anew(self):
        self.assertEqual(run(*BUILDING, *BUILDING)[4:], [[0], [0], [1], [0]])

    def test_room_for_all_areas_and_passages_anew(self):
        full = building_calls([(1, 0)] * 5, [(0, 1, 1, 1)] * 8)
        found = run(*full, *full)
        self.assertEqual(found[14:], found[:14])
        self.assertEqual(found[-1], [7])


class TestNothingIsKept(unittest.TestCase):
    def test_what_is_handed_in_is_unchanged(self):
        calls = written([*BUILDING, *EACH[1:], *EACH])
        before = list(calls)
        answers(calls)
        self.assertEqual(calls, before)

    def test_a_second_time_is_as_the_first(self):
        calls = written([*BUILDING, *EACH[1:], ("set_people", 0, 9), *STATE])
        self.assertEqual(answers(calls), answers(calls))

    def test_no_planner_is_left_for_the_next_time(self):
        run(*BUILDING)
        self.assertEqual(run(("list_areas",), ("max_evacuated", 0)), [[-11], [-11]])

    def test_what_is_given_back_is_the_callers_own(self):
        calls = written([*BUILDING, *STATE])
        first = answers(calls)
        kept = list(first)
        first.clear()
        self.assertEqual(answers(calls), kept)


class TestQueriesArePure(unittest.TestCase):
    def test_a_query_leaves_the_state_unchanged(self):
        before = seen(*BUILDING)
        for call in EACH[8:]:
            self.assertEqual(seen(*BUILDING, call, call), before, call)

    def test_a_query_leaves_the_other_answers_unchanged(self):
        queries = EACH[8:]
        expected = run(*BUILDING, *queries)[len(BUILDING):]
        for call in queries:
            self.assertEqual(run(*BUILDING, call, *queries)[len(BUILDING) + 1:], expected, call)

    def test_a_query_answers_the_same_again(self):
        queries = EACH[8:]
        found = run(*BUILDING, *queries, *reversed(queries))[len(BUILDING):]
        self.assertEqual(found[:len(queries)], list(reversed(found[len(queries):])))

    def test_a_change_behind_a_query_works_as_without_it(self):
        for query in EACH[8:]:
            for change in EACH[1:8]:
                without = run(*BUILDING, change, *STATE)[len(BUILDING):]
                self.assertEqual(run(*BUILDING, query, change, *STATE)[len(BUILDING) + 1:], without, (query, change))


class TestErrorsChangeNothing(unittest.TestCase):
    WRONG = (
        (("add_area", 21, 0), -22), (("set_people", 2, 0), -2), (("set_exit", 0, 2), -22),
        (("add_passage", 0, 0, 1, 1), -22), (("remove_passage", 1), -2), (("set_capacity", 0, 10), -22),
        (("max_evacuated", 6), -22), (("min_remaining", 6), -22), (("min_cut", 6), -22),
        (("cut_capacity", 1, [0, 1]), -22), (("is_valid_plan", [0]), -22), (("evacuated_by_plan", 1, [0, 0, 3]), -33),
        (("earliest_if_capacity", 1, 1), -2), (("earliest_if_people", 0, 11), -33), (("max_people", 1, 2), -33),
        (("outgoing_passages", 2), -2),
    )

    def test_the_state_and_all_answers_stay(self):
        expected = run(*BUILDING, *EACH[8:])[len(BUILDING):]
        for call, code in self.WRONG:
            found = run(*BUILDING, call, *EACH[8:])[len(BUILDING):]
            self.assertEqual(found, [[code], *expected], call)

    def test_all_of_them_one_behind_another(self):
        calls = [call for call, code in self.WRONG]
        found = run(*BUILDING, *calls, *STATE)[len(BUILDING):]
        self.assertEqual(found[:-3], [[code] for call, code in self.WRONG])
        self.assertEqual(found[-3:], seen(*BUILDING))


class TestHelpers(unittest.TestCase):
    def test_a_short_answer_is_noticed(self):
        self.assertRaises(ValueError, split, [1, 0, 2, 5])


if __name__ == "__main__":
    unittest.main()
