"""Operations 13 and 14: by hand, and compared with all cuts."""

import random
import unittest

from tests import oracle
from tests.chance import any_areas, any_building, any_passages, easy_building
from tests.session import LARGEST, answers_of, building_calls, last, run, seen

MINUTES = range(6)
CORRIDOR = building_calls([(3, 0), (0, 0), (0, 1)], [(0, 1, 3, 1), (1, 2, 1, 1)])


def smallest_cuts(areas, passages):
    """What min_cut answers for each minute."""
    return answers_of(areas, passages, *[("min_cut", minute) for minute in MINUTES])


def capacities(areas, passages, minute, cuts):
    """What cut_capacity answers for each cut, in sessions that are not too long."""
    found = []
    for start in range(0, len(cuts), 200):
        calls = [("cut_capacity", minute, list(cut)) for cut in cuts[start:start + 200]]
        found.extend(answers_of(areas, passages, *calls))
    return found


class TestMinCut(unittest.TestCase):
    def test_no_areas(self):
        self.assertEqual(smallest_cuts([], []), [[0]] * 6)

    def test_without_exits_it_is_zeros(self):
        self.assertEqual(smallest_cuts([(5, 0)], []), [[0, 0]] * 6)
        self.assertEqual(smallest_cuts([(5, 0), (20, 0), (0, 0)], [(0, 1, 9, 1), (1, 2, 1, 3)]), [[0, 0, 0, 0]] * 6)

    def test_an_exit_is_never_crossed(self):
        self.assertEqual(smallest_cuts([(7, 1)], []), [[7, minute + 1] for minute in MINUTES])
        self.assertEqual(smallest_cuts([(0, 1), (0, 1)], [(0, 1, 1, 1)]),
                         [[0, minute + 1, minute + 1] for minute in MINUTES])

    def test_no_people(self):
        # Crossing area 0 late enough costs nothing: nobody is in it, and no passage can be left in time.
        self.assertEqual(smallest_cuts([(0, 0), (0, 1)], [(0, 1, 2, 2)]),
                         [[0, 0, 1], [0, 0, 2], [0, 1, 3], [0, 2, 4], [0, 3, 5], [0, 4, 6]])

    def test_one_passage(self):
        # From minute 3 on the people are what limits, not the passage.
        self.assertEqual(smallest_cuts([(5, 0), (0, 1)], [(0, 1, 2, 1)]),
                         [[0, 0, 1], [2, 0, 2], [4, 0, 3], [5, 3, 4], [5, 4, 5], [5, 5, 6]])

    def test_a_corridor(self):
        found = run(*CORRIDOR, *[("min_cut", minute) for minute in MINUTES])[6:]
        self.assertEqual(found, [
            [0, 0, 0, 1], [0, 0, 1, 2], [1, 0, 1, 3], [2, 0, 1, 4], [3, 0, 1, 5], [3, 4, 5, 6]])

    def test_the_first_of_several_smallest_cuts(self):
        # 4 people and a passage for 2 a minute: by minute 2 it is the same to cut either.
        found = answers_of([(4, 0), (0, 1)], [(0, 1, 2, 1)], ("min_cut", 2), ("cut_capacity", 2, [0, 3]),
                           ("cut_capacity", 2, [1, 3]), ("cut_capacity", 2, [2, 3]), ("cut_capacity", 2, [3, 3]))
        self.assertEqual(found, [[4, 0, 3], [4], [6], [4], [4]])

    def test_the_first_area_counts_first(self):
        # 2 people walk one behind the other: cutting the people, the first or the second passage is the same.
        cuts = [[0, 0, 4], [0, 1, 4], [0, 2, 4], [0, 3, 4], [1, 0, 4], [1, 2, 4], [2, 3, 4]]
        found = answers_of([(2, 0), (0, 0), (0, 1)], [(0, 1, 1, 1), (1, 2, 1, 1)], ("min_cut", 3),
                           *[("cut_capacity", 3, cut) for cut in cuts])
        self.assertEqual(found, [[2, 0, 1, 4], [3], [2], [2], [2], [5], [3], [2]])

    def test_people_who_begin_in_an_exit(self):
        self.assertEqual(smallest_cuts([(4, 0), (20, 1)], [(0, 1, 1, 1)]), [
            [20, 0, 1], [21, 0, 2], [22, 0, 3], [23, 0, 4], [24, 0, 5], [24, 5, 6]])

    def test_passages_that_leave_an_exit(self):
        areas, passages = [(4, 0), (1, 1), (2, 1), (0, 0)], [(0, 1, 2, 1), (1, 2, 9, 1), (2, 3, 9, 1)]
        for minute, found in zip(MINUTES, smallest_cuts(areas, passages)):
            capacity, cut = oracle.first_of_the_least_cuts(areas, passages, minute)
            self.assertEqual(found, [capacity, *cut])

    def test_the_first_cut_of_all_with_the_smallest_capacity(self):
        chance = random.Random(11)
        for _ in range(80):
            areas = any_areas(chance, chance.randint(1, 3), 9, 0.2) + [(chance.randint(0, 9), 1)]
            passages = any_passages(chance, len(areas), 8, range(1, 6), (1, 1, 2, 3))
            for minute, found in zip(MINUTES, smallest_cuts(areas, passages)):
                capacity, cut = oracle.first_of_the_least_cuts(areas, passages, minute)
                self.assertEqual(found, [capacity, *cut], (areas, passages, minute))

    def test_the_first_cut_of_five_areas(self):
        chance = random.Random(12)
        for _ in range(15):
            areas, passages = any_areas(chance, 4, 9, 0.1) + [(0, 1)], []
            passages = any_passages(chance, 5, 8, range(1, 4), (1, 1, 2))
            for minute, found in zip(MINUTES, smallest_cuts(areas, passages)):
                capacity, cut = oracle.first_of_the_least_cuts(areas, passages, minute)
                self.assertEqual(found, [capacity, *cut], (areas, passages, minute))

    def test_edges_of_the_minute(self):
        self.assertEqual(last(*CORRIDOR, ("min_cut", 0)), [0, 0, 0, 1])
        self.assertEqual(last(*CORRIDOR, ("min_cut", 5)), [3, 4, 5, 6])
        for minute in (6, 7, 65536, LARGEST):
            self.assertEqual(last(*CORRIDOR, ("min_cut", minute)), [-22])
            self.assertEqual(last(("create",), ("min_cut", minute)), [-22])
            self.assertEqual(seen(*CORRIDOR, ("min_cut", minute)), seen(*CORRIDOR))


class TestCutCapacity(unittest.TestCase):
    def refused(self, minute, cut):
        call = ("cut_capacity", minute, cut)
        self.assertEqual(last(*CORRIDOR, call), [-22], call)
        self.assertEqual(seen(*CORRIDOR, call), seen(*CORRIDOR), call)

    def test_by_hand(self):
        areas, passages = [(5, 0), (0, 1)], [(0, 1, 2, 1)]
        cuts = [[crossing, 4] for crossing in range(5)]
        self.assertEqual(capacities(areas, passages, 3, cuts), [[6], [9], [7], [5], [5]])

    def test_people_count_where_the_crossing_minute_is_above_0(self):
        areas = [(5, 0), (7, 0), (20, 1)]
        cuts = [[0, 0, 3], [0, 1, 3], [1, 0, 3], [3, 3, 3]]
        self.assertEqual(capacities(areas, [], 2, cuts), [[20], [27], [25], [32]])

    def test_a_passage_must_be_left_by_the_minute_and_ahead_of_the_crossing(self):
        areas, passages = [(0, 0), (0, 0), (0, 1)], [(0, 1, 3, 2)]
        cuts = [[0, crossing, 6] for crossing in range(7)]
        self.assertEqual(capacities(areas, passages, 5, cuts), [[0], [0], [0], [3], [6], [9], [12]])
        cuts = [[crossing, 6, 6] for crossing in range(7)]
        self.assertEqual(capacities(areas, passages, 5, cuts), [[12], [9], [6], [3], [0], [0], [0]])

    def test_each_travel_time(self):
        for travel_time in (1, 2, 3):
            found = [capacities([(0, 0), (0, 1)], [(0, 1, 1, travel_time)], minute, [[0, minute + 1]])[0][0]
                     for minute in MINUTES]
            self.assertEqual(found, [max(0, minute + 1 - travel_time) for minute in MINUTES])

    def test_several_passages_between_the_same_areas(self):
        self.assertEqual(capacities([(0, 0), (0, 1)], [(0, 1, 2, 1), (0, 1, 2, 1), (0, 1, 1, 3)], 3, [[0, 4]]), [[13]])

    def test_a_passage_that_leaves_an_exit_counts_nothing(self):
        self.assertEqual(capacities([(0, 1), (0, 0)], [(0, 1, 9, 1)], 5, [[6, 0], [6, 6]]), [[0], [0]])

    def test_no_areas(self):
        self.assertEqual(run(("create",), ("cut_capacity", 0, []), ("cut_capacity", 5, []), ("cut_capacity", 6, []),
                             ("cut_capacity", 0, [0])), [[0], [0], [0], [-22], [-22]])

    def test_without_exits_zeros_have_capacity_0(self):
        self.assertEqual(capacities([(5, 0), (5, 0)], [(0, 1, 9, 1)], 5, [[0, 0], [6, 6], [0, 6]]), [[0], [10], [50]])

    def test_all_cuts_of_small_buildings(self):
        chance = random.Random(13)
        for _ in range(20):
            areas = any_areas(chance, 3, 20, 0.3)
            passages = any_passages(chance, 3, 8, range(1, 10), (1, 2, 3))
            minute = chance.randint(0, 5)
            cuts = list(oracle.all_cuts(areas, minute))
            expected = [[oracle.cut_capacity(areas, passages, minute, cut)] for cut in cuts]
            self.assertEqual(capacities(areas, passages, minute, cuts), expected, (areas, passages, minute))

    def test_of_the_largest_building(self):
        areas, passages = [(20, 0)] * 4 + [(20, 1)], [(number % 4, 4, 9, 1) for number in range(8)]
        self.assertEqual(capacities(areas, passages, 5, [[0, 0, 0, 0, 6], [6, 6, 6, 6, 6], [1, 0, 0, 0, 6]]),
                         [[380], [100], [382]])

    def test_a_list_of_another_length_is_no_cut(self):
        for length in range(9):
            if length != 3:
                self.refused(2, [3] * length)
        self.refused(2, [0, 0])
        self.refused(2, [0, 0, 3, 3])
        self.assertEqual(last(*CORRIDOR, ("cut_capacity", 2, [3, 3, 3])), [3])

    def test_edges_of_the_crossing_minutes(self):
        for minute in MINUTES:
            self.assertEqual(last(*CORRIDOR, ("cut_capacity", minute, [minute + 1, minute + 1, minute + 1])), [3])
            for crossing in (minute + 2, minute + 3, 65535):
                self.refused(minute, [crossing, 0, minute + 1])
                self.refused(minute, [0, crossing, minute + 1])

    def test_an_exit_is_never_crossed(self):
        for minute in MINUTES:
            for crossing in (*range(minute + 1), minute + 2, 65535):
                self.refused(minute, [0, 0, crossing])
        found = run(*CORRIDOR, ("cut_capacity", 2, [0, 2, 3]), ("set_exit", 1, 1), ("cut_capacity", 2, [0, 2, 3]),
                    ("set_exit", 2, 0), ("cut_capacity", 2, [0, 3, 0]))
        self.assertEqual(found[6:], [[3], [0], [-22], [1], [6]])

    def test_edges_of_the_minute(self):
        self.assertEqual(last(*CORRIDOR, ("cut_capacity", 0, [0, 0, 1])), [0])
        self.assertEqual(last(*CORRIDOR, ("cut_capacity", 5, [0, 0, 6])), [5])
        for minute in (6, 7, 65534, 65535, LARGEST):
            self.refused(minute, [0, 0, min(minute + 1, 65535)])
            self.refused(minute, [0, 0, 6])
            self.refused(minute, [])
        self.refused(6, [0, 0, 7])

    def test_several_errors_at_once(self):
        self.refused(LARGEST, [65535] * 8)
        self.refused(5, [65535] * 8)
        self.refused(0, [9, 9, 0])


class TestCutsAreBounds(unittest.TestCase):
    def test_no_cut_is_smaller_than_max_evacuated_and_min_cut_is_one_as_small(self):
        chance = random.Random(14)
        for make in (any_building, easy_building):
            for _ in range(60):
                areas, passages = make(chance)
                for minute in MINUTES:
                    most, smallest = answers_of(areas, passages, ("max_evacuated", minute), ("min_cut", minute))
                    again = capacities(areas, passages, minute, [smallest[1:]])
                    self.assertEqual([most, most], [smallest[:1], again[0]], (areas, passages, minute))

    def test_all_cuts_of_small_buildings(self):
        chance = random.Random(15)
        for _ in range(20):
            areas = any_areas(chance, 2, 9, 0.2) + [(1, 1)]
            passages = any_passages(chance, 3, 5, (1, 2, 3), (1, 1, 2))
            minute = chance.randint(0, 5)
            found = capacities(areas, passages, minute, list(oracle.all_cuts(areas, minute)))
            most = answers_of(areas, passages, ("max_evacuated", minute))[0]
            self.assertEqual(min(found), most, (areas, passages, minute))


if __name__ == "__main__":
    unittest.main()
