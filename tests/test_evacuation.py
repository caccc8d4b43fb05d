"""Operations 10 and 11: by hand, and compared with all plans and with all cuts."""

import random
import unittest

from tests import oracle
from tests.chance import any_areas, any_building, any_passages
from tests.session import LARGEST, building_calls, last, run, seen

MINUTES = range(6)


def most(areas, passages):
    """What max_evacuated answers for each minute."""
    calls = building_calls(areas, passages)
    found = run(*calls, *[("max_evacuated", minute) for minute in MINUTES])
    return [answer[0] for answer in found[len(calls):]]


def remaining(areas, passages):
    calls = building_calls(areas, passages)
    found = run(*calls, *[("min_remaining", minute) for minute in MINUTES])
    return [answer[0] for answer in found[len(calls):]]


class TestByHand(unittest.TestCase):
    def check(self, areas, passages, expected):
        total = sum(area[0] for area in areas)
        self.assertEqual(most(areas, passages), expected)
        self.assertEqual(remaining(areas, passages), [total - people for people in expected])

    def test_no_areas(self):
        self.check([], [], [0] * 6)

    def test_no_exits(self):
        self.check([(5, 0), (20, 0)], [(0, 1, 9, 1), (1, 0, 9, 1)], [0] * 6)

    def test_no_passages(self):
        self.check([(5, 0), (3, 1)], [], [3] * 6)

    def test_no_people(self):
        self.check([(0, 0), (0, 1)], [(0, 1, 9, 1)], [0] * 6)

    def test_people_who_begin_in_an_exit_count(self):
        self.check([(20, 1)], [], [20] * 6)
        self.check([(4, 0), (20, 1)], [(0, 1, 1, 1)], [20, 21, 22, 23, 24, 24])

    def test_nobody_need_leave_an_exit(self):
        self.check([(5, 1), (0, 0)], [(0, 1, 9, 1)], [5] * 6)

    def test_the_way_out_may_lead_through_an_exit(self):
        self.check([(4, 0), (1, 1), (2, 1)], [(0, 1, 2, 1), (1, 2, 9, 1)], [3, 5, 7, 7, 7, 7])
        self.check([(6, 0), (0, 1), (0, 0), (0, 1)], [(0, 2, 2, 1), (2, 1, 1, 1), (1, 3, 9, 1), (2, 3, 1, 1)],
                   [0, 0, 2, 4, 6, 6])

    def test_each_travel_time(self):
        for travel_time in (1, 2, 3):
            expected = [max(0, minute + 1 - travel_time) for minute in MINUTES]
            self.check([(20, 0), (0, 1)], [(0, 1, 1, travel_time)], expected)

    def test_each_capacity(self):
        for capacity in range(1, 10):
            expected = [min(20, capacity * minute) for minute in MINUTES]
            self.check([(20, 0), (0, 1)], [(0, 1, capacity, 1)], expected)

    def test_several_passages_between_the_same_areas(self):
        self.check([(20, 0), (0, 1)], [(0, 1, 2, 1), (0, 1, 2, 1), (0, 1, 1, 3)], [0, 4, 8, 13, 18, 20])

    def test_a_passage_leads_one_way(self):
        self.check([(5, 0), (0, 1)], [(1, 0, 9, 1)], [0] * 6)

    def test_a_round_of_passages(self):
        self.check([(3, 0), (0, 0), (0, 1)], [(0, 1, 3, 1), (1, 0, 3, 1), (1, 2, 2, 1)], [0, 0, 2, 3, 3, 3])

    def test_people_wait_where_it_is_narrow(self):
        self.check([(9, 0), (0, 0), (0, 1)], [(0, 1, 9, 1), (1, 2, 2, 1)], [0, 0, 2, 4, 6, 8])

    def test_nobody_waits_in_the_way_of_others(self):
        # Whoever is in area 0 must leave it at minute 0: at minute 1 the other one needs the passage.
        self.check([(1, 0), (0, 1), (1, 0)], [(0, 1, 1, 1), (2, 0, 1, 1)], [0, 1, 2, 2, 2, 2])

    def test_the_largest_building(self):
        self.check([(20, 0)] * 4 + [(20, 1)], [(0, 4, 9, 1), (1, 4, 9, 1), (2, 4, 9, 1), (3, 4, 9, 1)] * 2,
                   [20, 92, 100, 100, 100, 100])

    def test_what_changed_is_what_counts(self):
        calls = building_calls([(5, 0), (0, 1)], [(0, 1, 2, 1)])
        found = run(*calls, ("set_capacity", 0, 4), ("max_evacuated", 1), ("set_people", 0, 3), ("max_evacuated", 1),
                    ("set_exit", 0, 1), ("max_evacuated", 0), ("remove_passage", 0), ("set_exit", 0, 0),
                    ("max_evacuated", 5), ("min_remaining", 5))
        self.assertEqual(found[4:], [[2], [4], [5], [3], [0], [3], [0], [1], [0], [3]])


class TestErrors(unittest.TestCase):
    def test_edges_of_the_minute(self):
        start = building_calls([(20, 0), (0, 1)], [(0, 1, 1, 1)])
        for name, first, final in (("max_evacuated", 0, 5), ("min_remaining", 20, 15)):
            self.assertEqual(last(*start, (name, 0)), [first])
            self.assertEqual(last(*start, (name, 5)), [final])
            for minute in (6, 7, 65536, LARGEST):
                self.assertEqual(last(*start, (name, minute)), [-22])
                self.assertEqual(last(("create",), (name, minute)), [-22])
                self.assertEqual(seen(*start, (name, minute)), seen(*start))


class TestRequirements(unittest.TestCase):
    def test_no_valid_plan_is_better_and_some_is_as_good(self):
        chance = random.Random(1)
        for _ in range(60):
            areas = any_areas(chance, 3, 3, 0.4)
            passages = any_passages(chance, 3, 3, (1, 2), (1, 1, 2, 3))
            longest = {0: 5, 1: 5, 2: 4, 3: 3}[len(passages)]
            found = most(areas, passages)
            for minute in range(longest + 1):
                expected = oracle.most_by_plans(areas, passages, minute)
                self.assertEqual(found[minute], expected, (areas, passages, minute))

    def test_as_many_as_the_smallest_cut(self):
        chance = random.Random(2)
        for _ in range(60):
            areas = any_areas(chance, chance.randint(2, 4), 20, 0.3)
            passages = any_passages(chance, len(areas), 8, range(1, 10), (1, 2, 3))
            found = most(areas, passages)
            for minute in MINUTES:
                expected = oracle.least_by_cuts(areas, passages, minute)
                self.assertEqual(found[minute], expected, (areas, passages, minute))

    def test_the_smallest_cut_of_five_areas(self):
        chance = random.Random(3)
        for _ in range(12):
            areas = any_areas(chance, 4, 20, 0.1) + [(chance.randint(0, 20), 1)]
            passages = any_passages(chance, 5, 8, range(1, 10), (1, 1, 2))
            expected = [oracle.least_by_cuts(areas, passages, minute) for minute in MINUTES]
            self.assertEqual(most(areas, passages), expected, (areas, passages))

    def test_more_time_never_evacuates_fewer_nor_more_than_there_are(self):
        chance = random.Random(4)
        for _ in range(200):
            areas, passages = any_building(chance)
            total = sum(area[0] for area in areas)
            found = most(areas, passages)
            self.assertEqual(found, sorted(found), (areas, passages))
            self.assertLessEqual(found[5], total)
            self.assertEqual(remaining(areas, passages), [total - people for people in found])


class TestOracle(unittest.TestCase):
    def test_the_documents_plan(self):
        areas, passages = [(5, 0), (0, 1)], [(0, 1, 2, 1)]
        plan = [(0, 0, 2), (0, 1, 2), (0, 2, 1)]
        self.assertTrue(oracle.is_valid(areas, passages, plan))
        self.assertEqual(oracle.evacuated(areas, passages, plan, 3), 5)
        self.assertFalse(oracle.is_valid(areas, passages, [(0, 0, 2), (0, 0, 1)]))
        self.assertEqual(oracle.cut_capacity(areas, passages, 1, (0, 2)), 2)


if __name__ == "__main__":
    unittest.main()
