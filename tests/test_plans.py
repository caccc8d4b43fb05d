"""Operations 15 and 16: by hand, and compared with the document's terms word by word."""

import random
import unittest

from buildingexits.building import Area, Building, Passage
from buildingexits.plans import plan_of, present
from tests import oracle
from tests.chance import any_areas, any_building, any_passages, easy_building
from tests.session import LARGEST, answers_of, building_calls, last, run, seen

MINUTES = range(6)
LARGEST_ELEMENT = 65535
# Area 0 leads to area 1, and this to the exit.
AREAS = [(3, 0), (1, 0), (0, 1)]
PASSAGES = [(0, 1, 3, 1), (1, 2, 2, 2)]
CORRIDOR = building_calls(AREAS, PASSAGES)


def numbers_of(plan):
    return [number for step in plan for number in step]


def validity(areas, passages, plans):
    """What is_valid_plan answers for each plan, in sessions that are not too long."""
    found = []
    for start in range(0, len(plans), 200):
        calls = [("is_valid_plan", numbers_of(plan)) for plan in plans[start:start + 200]]
        found.extend([answer[0] for answer in answers_of(areas, passages, *calls)])
    return found


def evacuated(areas, passages, plan):
    """What evacuated_by_plan answers for each minute."""
    calls = [("evacuated_by_plan", minute, numbers_of(plan)) for minute in MINUTES]
    return [answer[0] for answer in answers_of(areas, passages, *calls)]


def any_plan(chance, passages, most_steps, most_people):
    numbers = range(len(passages))
    return [(chance.choice(numbers), chance.randint(0, 5), chance.randint(0, most_people))
            for _ in range(chance.randint(0, most_steps))]


class PlanCase(unittest.TestCase):
    def valid(self, plan, areas=AREAS, passages=PASSAGES):
        self.assertEqual(validity(areas, passages, [plan]), [1], plan)

    def invalid(self, plan, areas=AREAS, passages=PASSAGES):
        """Not valid, whichever of its steps comes first, and so evacuated_by_plan refuses it."""
        for same in (plan, plan[::-1]):
            self.assertEqual(validity(areas, passages, [same]), [0], same)
            self.assertEqual(evacuated(areas, passages, same), [-33] * 6, same)

    def refused(self, call):
        self.assertEqual(last(*CORRIDOR, call), [-22], call)
        self.assertEqual(seen(*CORRIDOR, call), seen(*CORRIDOR), call)


class TestForm(PlanCase):
    def test_the_empty_plan(self):
        self.assertEqual(run(("create",), ("is_valid_plan", []), ("evacuated_by_plan", 0, [])), [[0], [1], [0]])
        self.assertEqual(evacuated([(5, 0), (7, 1), (2, 1)], [], []), [9] * 6)

    def test_numbers_that_are_no_multiple_of_3(self):
        for length in range(49):
            if length % 3 != 0:
                self.refused(("is_valid_plan", [0] * length))
                self.refused(("evacuated_by_plan", 2, [0] * length))

    def test_up_to_36_numbers(self):
        for length in range(0, 37, 3):
            self.assertEqual(last(*CORRIDOR, ("is_valid_plan", [0] * length)), [1], length)
            self.assertEqual(last(*CORRIDOR, ("evacuated_by_plan", 2, [0] * length)), [0], length)
        for length in (37, 38, 39, 42, 45, 48):
            self.refused(("is_valid_plan", [0] * length))
            self.refused(("evacuated_by_plan", 2, [0] * length))

    def test_the_twelfth_step_counts(self):
        steps = [(0, 0, 0)] * 11
        self.valid([*steps, (0, 0, 3)])
        self.invalid([*steps, (0, 0, 4)])
        areas, passages = [(20, 0), (0, 1)], [(0, 1, 9, 1)]
        self.assertEqual(evacuated(areas, passages, [(0, 0, 1)] * 9 + [(0, 1, 2)] * 3), [0, 9, 15, 15, 15, 15])

    def test_the_form_comes_ahead_of_the_validity(self):
        for numbers in ([LARGEST_ELEMENT] * 4, [LARGEST_ELEMENT] * 39, [LARGEST_ELEMENT] * 48, [9]):
            self.refused(("is_valid_plan", numbers))
            self.refused(("evacuated_by_plan", 5, numbers))


class TestSteps(PlanCase):
    def test_no_such_passage(self):
        for passage in (2, 3, 8, LARGEST_ELEMENT):
            for people in (0, 1):
                self.invalid([(passage, 0, people)])
                self.invalid([(0, 0, 1), (passage, 0, people)])
        self.invalid([(0, 0, 0)], [], [])
        self.invalid([(0, 0, 1)], AREAS, [])

    def test_edges_of_the_minute(self):
        for minute in MINUTES:
            self.valid([(0, minute, 1)])
        for minute in (6, 7, LARGEST_ELEMENT):
            for people in (0, 1):
                self.invalid([(0, minute, people)])
                self.invalid([(0, 0, 1), (0, minute, people)])

    def test_a_step_of_0_people(self):
        for minute in MINUTES:
            self.valid([(0, minute, 0), (1, minute, 0)])
        self.valid([(0, 0, 0)], [(0, 0), (0, 1)], [(0, 1, 1, 1)])

    def test_far_too_many_people(self):
        self.invalid([(0, 0, LARGEST_ELEMENT)])
        self.invalid([(0, 0, LARGEST_ELEMENT)] * 12)
        self.invalid([(LARGEST_ELEMENT, LARGEST_ELEMENT, LARGEST_ELEMENT)])


class TestCapacity(PlanCase):
    def test_each_capacity(self):
        for capacity in range(1, 10):
            areas, passages = [(20, 0), (0, 1)], [(0, 1, capacity, 1)]
            for minute in MINUTES:
                self.valid([(0, minute, capacity)], areas, passages)
                self.invalid([(0, minute, capacity + 1)], areas, passages)

    def test_steps_of_the_same_passage_and_minute_count_together(self):
        areas, passages = [(20, 0), (0, 1)], [(0, 1, 4, 1), (0, 1, 3, 1)]
        self.valid([(0, 2, 1), (0, 2, 2), (0, 2, 1)], areas, passages)
        self.invalid([(0, 2, 1), (0, 2, 2), (0, 2, 2)], areas, passages)
        self.valid([(0, 2, 4), (0, 3, 4), (1, 2, 3)], areas, passages)
        self.invalid([(0, 2, 4), (0, 3, 4), (1, 2, 4)], areas, passages)
        self.invalid([(0, 2, 4), (0, 3, 4), (1, 2, 3), (0, 2, 1)], areas, passages)

    def test_passages_between_the_same_areas_count_each_for_itself(self):
        areas, passages = [(20, 0), (0, 1)], [(0, 1, 2, 1), (0, 1, 2, 1)]
        self.valid([(0, 0, 2), (1, 0, 2)], areas, passages)
        self.invalid([(0, 0, 3), (1, 0, 1)], areas, passages)


class TestPresent(PlanCase):
    def test_people_who_are_there_at_first(self):
        self.valid([(0, 0, 3)])
        self.valid([(0, 5, 3)])
        self.invalid([(1, 0, 2)])
        self.valid([(1, 0, 1)])

    def test_all_steps_out_of_an_area_count_together(self):
        areas, passages = [(3, 0), (0, 1), (0, 1)], [(0, 1, 9, 1), (0, 2, 9, 1)]
        self.valid([(0, 0, 1), (1, 0, 2)], areas, passages)
        self.invalid([(0, 0, 2), (1, 0, 2)], areas, passages)

    def test_who_has_left_is_not_there_any_more(self):
        self.valid([(0, 0, 2), (0, 1, 1)])
        self.invalid([(0, 0, 2), (0, 1, 2)])
        self.invalid([(0, 4, 2), (0, 5, 2)])

    def test_people_may_leave_in_the_minute_in_which_they_arrive(self):
        self.valid([(0, 0, 1), (1, 1, 2)])
        self.invalid([(0, 0, 1), (1, 0, 2)])
        self.invalid([(0, 1, 1), (1, 1, 2)])
        for travel_time in (1, 2, 3):
            areas, passages = [(1, 0), (0, 0), (0, 1)], [(0, 1, 1, travel_time), (1, 2, 1, 1)]
            self.valid([(0, 0, 1), (1, travel_time, 1)], areas, passages)
            self.valid([(0, 2, 1), (1, 2 + travel_time, 1)], areas, passages)
            self.invalid([(0, 0, 1), (1, travel_time - 1, 1)], areas, passages)

    def test_people_may_wait(self):
        self.valid([(0, 0, 3), (1, 1, 2), (1, 2, 2)])
        self.valid([(0, 0, 3), (1, 4, 2), (1, 5, 2)])
        self.invalid([(0, 0, 3), (1, 4, 2), (1, 5, 2), (1, 3, 1)])

    def test_nobody_leaves_twice(self):
        areas, passages = [(2, 0), (0, 0)], [(0, 1, 9, 1), (1, 0, 9, 1)]
        self.valid([(0, 0, 2), (1, 1, 2), (0, 2, 2), (1, 3, 2)], areas, passages)
        self.invalid([(0, 0, 2), (1, 1, 2), (0, 2, 2), (1, 3, 2), (0, 3, 1)], areas, passages)

    def test_too_many_in_the_last_minute(self):
        self.valid([(0, 5, 3), (1, 5, 1)])
        self.invalid([(0, 5, 3), (1, 5, 2)])

    def test_what_changed_is_what_counts(self):
        steps = [0, 0, 3]
        found = run(*CORRIDOR, ("is_valid_plan", steps), ("set_people", 0, 2), ("is_valid_plan", steps),
                    ("set_people", 0, 20), ("set_capacity", 0, 2), ("is_valid_plan", steps),
                    ("set_capacity", 0, 9), ("is_valid_plan", steps), ("reverse_passages",),
                    ("is_valid_plan", steps), ("remove_passage", 0), ("is_valid_plan", [1, 0, 0]))
        self.assertEqual(found[len(CORRIDOR):], [
            [1], [3], [0], [2], [3], [0], [2], [1], [2], [0], [1], [0]])


class TestEvacuated(PlanCase):
    def test_step_by_step(self):
        plan = [(0, 0, 3), (1, 0, 1), (1, 1, 2), (1, 2, 1)]
        self.assertEqual(evacuated(AREAS, PASSAGES, plan), [0, 0, 1, 3, 4, 4])
        self.assertEqual(evacuated(AREAS, PASSAGES, plan[::-1]), [0, 0, 1, 3, 4, 4])

    def test_people_who_were_in_an_exit(self):
        self.assertEqual(evacuated([(5, 0), (20, 1), (7, 1)], [(0, 1, 2, 1)], [(0, 0, 2)]), [27, 29, 29, 29, 29, 29])

    def test_people_may_leave_an_exit_again(self):
        areas, passages = [(2, 0), (3, 1), (0, 0)], [(0, 1, 2, 1), (1, 2, 9, 1), (2, 1, 9, 2)]
        # Whoever leaves in a minute is still there at it.
        self.assertEqual(evacuated(areas, passages, [(1, 0, 3)]), [3, 0, 0, 0, 0, 0])
        self.assertEqual(evacuated(areas, passages, [(0, 0, 2), (1, 1, 4)]), [3, 5, 1, 1, 1, 1])
        self.assertEqual(evacuated(areas, passages, [(0, 0, 2), (1, 1, 5), (2, 2, 5)]), [3, 5, 0, 0, 5, 5])
        self.assertEqual(evacuated(areas, passages, [(1, 5, 3)]), [3] * 6)
        self.invalid([(0, 0, 2), (1, 1, 6)], areas, passages)

    def test_from_an_exit_to_an_exit(self):
        areas, passages = [(4, 1), (0, 1)], [(0, 1, 9, 2)]
        self.assertEqual(evacuated(areas, passages, [(0, 1, 3)]), [4, 4, 1, 4, 4, 4])

    def test_without_exits(self):
        self.assertEqual(evacuated([(3, 0), (0, 0)], [(0, 1, 3, 1)], [(0, 0, 3)]), [0] * 6)

    def test_steps_behind_the_minute_must_be_valid_too(self):
        self.assertEqual(last(*CORRIDOR, ("evacuated_by_plan", 0, [0, 5, 3])), [0])
        self.assertEqual(last(*CORRIDOR, ("evacuated_by_plan", 0, [0, 5, 4])), [-33])

    def test_edges_of_the_minute(self):
        steps = [1, 0, 1]
        self.assertEqual(last(*CORRIDOR, ("evacuated_by_plan", 0, steps)), [0])
        self.assertEqual(last(*CORRIDOR, ("evacuated_by_plan", 5, steps)), [1])
        for minute in (6, 7, 65536, LARGEST):
            self.refused(("evacuated_by_plan", minute, steps))
            self.refused(("evacuated_by_plan", minute, []))

    def test_the_minute_and_the_form_come_ahead_of_the_validity(self):
        for minute in (6, LARGEST):
            self.refused(("evacuated_by_plan", minute, [LARGEST_ELEMENT] * 3))
            self.refused(("evacuated_by_plan", minute, [LARGEST_ELEMENT] * 48))
        self.refused(("evacuated_by_plan", 0, [LARGEST_ELEMENT] * 2))
        self.assertEqual(last(*CORRIDOR, ("evacuated_by_plan", 0, [LARGEST_ELEMENT] * 36)), [-33])

    def test_a_refused_plan_changes_nothing(self):
        for call in (("evacuated_by_plan", 0, [LARGEST_ELEMENT] * 3), ("is_valid_plan", [LARGEST_ELEMENT] * 3)):
            self.assertEqual(seen(*CORRIDOR, call), seen(*CORRIDOR))


class TestWordByWord(unittest.TestCase):
    def test_any_plans(self):
        chance = random.Random(21)
        valid_count = 0
        for _ in range(400):
            areas = any_areas(chance, 3, 20, 0.4)
            passages = any_passages(chance, 3, 8, (2, 5, 9), (1, 2, 3)) or [(0, 1, 1, 1)]
            plan = any_plan(chance, passages, 12, 5)
            expected = oracle.is_valid(areas, passages, plan)
            self.assertEqual(validity(areas, passages, [plan]), [int(expected)], (areas, passages, plan))
            if expected:
                valid_count += 1
                there = [oracle.evacuated(areas, passages, plan, minute) for minute in MINUTES]
                self.assertEqual(evacuated(areas, passages, plan), there, (areas, passages, plan))
        self.assertTrue(80 < valid_count < 320, valid_count)

    def test_one_more_or_fewer_or_a_minute_later(self):
        # A best plan uses what there is, so that a small difference is often too much.
        chance = random.Random(22)
        found = []
        for _ in range(100):
            areas, passages = easy_building(chance)
            plan = oracle.best_plan(areas, passages, 4)[:12]
            for place, (number, minute, people) in enumerate(plan):
                for step in ((number, minute, people + 1), (number, minute, people - 1), (number, minute + 1, people)):
                    other = [*plan[:place], step, *plan[place + 1:]]
                    expected = int(oracle.is_valid(areas, passages, other))
                    found.append(expected)
                    self.assertEqual(validity(areas, passages, [other]), [expected], (areas, passages, other))
        self.assertLess(100, sum(found))
        self.assertLess(100, len(found) - sum(found))


class TestNoPlanIsBetter(unittest.TestCase):
    def test_all_plans_of_small_buildings(self):
        chance = random.Random(23)
        for _ in range(30):
            areas = any_areas(chance, 3, 3, 0.4)
            passages = any_passages(chance, 3, 2, (1, 2), (1, 1, 2))
            minute = chance.randint(1, 3)
            plans = list(oracle.all_plans(passages, minute))
            found = validity(areas, passages, plans)
            valid = [plan for plan, answer in zip(plans, found) if answer == 1]
            calls = [("evacuated_by_plan", minute, numbers_of(plan)) for plan in valid]
            reached = []
            for start in range(0, len(calls), 200):
                reached.extend(answers_of(areas, passages, *calls[start:start + 200]))
            most = answers_of(areas, passages, ("max_evacuated", minute))[0]
            self.assertEqual(max(reached), most, (areas, passages, minute))

    def test_no_valid_plan_of_any_building(self):
        chance = random.Random(24)
        for _ in range(300):
            areas, passages = any_building(chance)
            passages = passages or [(0, 1, 1, 1)]
            plan = any_plan(chance, passages, 6, 4)
            most = answers_of(areas, passages, *[("max_evacuated", minute) for minute in MINUTES])
            for reached, answer in zip(evacuated(areas, passages, plan), most):
                self.assertLessEqual(reached, answer[0], (areas, passages, plan))

    def test_some_valid_plan_is_as_good(self):
        chance = random.Random(25)
        handed_in = 0
        for _ in range(150):
            areas, passages = easy_building(chance)
            minute = chance.randint(0, 5)
            plan = oracle.best_plan(areas, passages, minute)
            most = answers_of(areas, passages, ("max_evacuated", minute))
            self.assertTrue(oracle.is_valid(areas, passages, plan))
            self.assertEqual([oracle.evacuated(areas, passages, plan, minute)], most[0], (areas, passages, minute))
            if len(plan) <= 12:
                handed_in += 1
                found = answers_of(areas, passages, ("is_valid_plan", numbers_of(plan)),
                                   ("evacuated_by_plan", minute, numbers_of(plan)))
                self.assertEqual(found, [[1], most[0]], (areas, passages, minute))
        self.assertLess(75, handed_in)


class TestNobodyIsLost(unittest.TestCase):
    def test_behind_the_last_step_all_are_present(self):
        # With every area an exit, what is evacuated is who is present anywhere.
        chance = random.Random(26)
        valid_count = 0
        for _ in range(200):
            areas = [(chance.randint(0, 20), 1) for _ in range(3)]
            passages = any_passages(chance, 3, 8, (2, 5, 9), (1, 2, 3)) or [(0, 1, 1, 1)]
            plan = [(number, minute, people) for number, minute, people in any_plan(chance, passages, 6, 4)
                    if minute + passages[number][3] <= 5]
            if oracle.is_valid(areas, passages, plan):
                valid_count += 1
                total = sum(area[0] for area in areas)
                self.assertEqual(evacuated(areas, passages, plan)[5], total, (areas, passages, plan))
        self.assertLess(50, valid_count)

    def test_four_minutes_behind_the_last_minute(self):
        chance = random.Random(27)
        valid_count = 0
        for _ in range(400):
            areas, passages = any_building(chance)
            building = Building()
            building.areas = [Area(*area) for area in areas]
            building.passages = [Passage(*passage) for passage in passages]
            plan = any_plan(chance, passages, 8, 4) if passages else []
            if plan and validity(areas, passages, [plan]) == [1]:
                valid_count += 1
                steps = plan_of(numbers_of(plan))
                found = sum(present(building, steps, area, 9) for area in range(len(areas)))
                self.assertEqual(found, sum(area[0] for area in areas), (areas, passages, plan))
        self.assertLess(50, valid_count)


if __name__ == "__main__":
    unittest.main()
