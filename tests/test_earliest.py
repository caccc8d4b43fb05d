"""Operations 12 and 17 to 20: by hand, and compared with all cuts."""

import random
import unittest

from tests import oracle
from tests.chance import any_building, easy_building
from tests.session import LARGEST, answers_of, building_calls, last, run, seen

MINUTES = range(6)
EARLIEST = ("earliest_evacuation",)
CRITICAL = ("critical_passages",)
AREAS = [(5, 0), (0, 1)]
PASSAGES = [(0, 1, 2, 1)]
BUILDING = building_calls(AREAS, PASSAGES)
CORRIDOR = building_calls([(3, 0), (0, 0), (0, 1)], [(0, 1, 3, 1), (1, 2, 1, 1)])
# Nobody can leave area 1.
STUCK = building_calls([(5, 0), (4, 0), (0, 1)], [(0, 2, 2, 1)])


def or_never(minute):
    """So that a refusal is later than every minute."""
    return 6 if minute == -33 else minute


class EarliestCase(unittest.TestCase):
    def refused(self, start, call, code):
        """The call answers the code alone and changes nothing."""
        self.assertEqual(last(*start, call), [code], call)
        self.assertEqual(seen(*start, call), seen(*start), call)

    def answered(self, start, call, answer):
        """The call answers this, and changes nothing."""
        self.assertEqual(last(*start, call), answer, call)
        self.assertEqual(seen(*start, call), seen(*start), call)


class TestEarliestEvacuation(EarliestCase):
    def test_each_minute(self):
        for people, minute in ((0, 0), (1, 1), (2, 1), (3, 2), (4, 2), (5, 3), (6, 3), (7, 4), (8, 4), (9, 5), (10, 5)):
            self.answered(building_calls([(people, 0), (0, 1)], PASSAGES), EARLIEST, [minute])
        for people in (11, 20):
            self.refused(building_calls([(people, 0), (0, 1)], PASSAGES), EARLIEST, -33)

    def test_each_travel_time(self):
        for travel_time in (1, 2, 3):
            self.assertEqual(answers_of([(1, 0), (0, 1)], [(0, 1, 9, travel_time)], EARLIEST), [[travel_time]])

    def test_no_areas(self):
        self.answered([("create",)], EARLIEST, [0])

    def test_no_people(self):
        self.answered(building_calls([(0, 0)] * 5, []), EARLIEST, [0])
        self.answered(building_calls([(0, 0), (0, 1)], [(0, 1, 1, 3)]), EARLIEST, [0])

    def test_no_exits(self):
        self.refused(building_calls([(1, 0)], []), EARLIEST, -33)
        self.refused(building_calls([(5, 0), (5, 0)], [(0, 1, 9, 1), (1, 0, 9, 1)]), EARLIEST, -33)

    def test_all_begin_in_an_exit(self):
        self.answered(building_calls([(20, 1), (0, 0), (7, 1)], [(0, 1, 9, 1)]), EARLIEST, [0])

    def test_some_cannot_leave(self):
        self.refused(STUCK, EARLIEST, -33)

    def test_several_passages_between_the_same_areas(self):
        self.assertEqual(answers_of([(12, 0), (0, 1)], [(0, 1, 3, 1), (0, 1, 3, 1)], EARLIEST), [[2]])

    def test_through_an_exit_that_is_left(self):
        self.assertEqual(answers_of([(2, 0), (3, 1), (1, 0)], [(0, 1, 1, 1), (1, 2, 9, 1), (2, 1, 1, 3)], EARLIEST),
                         [[3]])

    def test_what_changed_is_what_counts(self):
        found = run(*BUILDING, EARLIEST, ("set_people", 0, 4), EARLIEST, ("set_capacity", 0, 4), EARLIEST,
                    ("reverse_passages",), EARLIEST, ("set_exit", 0, 1), EARLIEST, ("set_people", 1, 5), EARLIEST,
                    ("set_exit", 1, 0), EARLIEST, ("remove_passage", 0), EARLIEST)
        self.assertEqual(found[len(BUILDING)::2], [[3], [2], [1], [-33], [0], [0], [2], [-33]])


class TestEarliestIfCapacity(EarliestCase):
    def test_each_capacity(self):
        expected = [[5], [3], [2], [2], [1], [1], [1], [1], [1]]
        for capacity in range(1, 10):
            self.answered(BUILDING, ("earliest_if_capacity", 0, capacity), expected[capacity - 1])

    def test_each_passage(self):
        self.answered(CORRIDOR, ("earliest_if_capacity", 0, 1), [4])
        self.answered(CORRIDOR, ("earliest_if_capacity", 0, 9), [4])
        self.answered(CORRIDOR, ("earliest_if_capacity", 1, 2), [3])
        self.answered(CORRIDOR, ("earliest_if_capacity", 1, 3), [2])

    def test_the_passage_keeps_its_ends_and_its_travel_time(self):
        start = building_calls([(5, 0), (0, 1)], [(0, 1, 1, 3)])
        self.answered(start, ("earliest_if_capacity", 0, 4), [4])
        self.answered(start, ("earliest_if_capacity", 0, 5), [3])

    def test_of_equal_passages_the_one(self):
        start = building_calls([(12, 0), (0, 1)], [(0, 1, 3, 1), (0, 1, 3, 1)])
        for passage in (0, 1):
            self.answered(start, ("earliest_if_capacity", passage, 9), [1])
            self.answered(start, ("earliest_if_capacity", passage, 1), [3])

    def test_the_earliest_evacuation_stays(self):
        found = run(*BUILDING, ("earliest_if_capacity", 0, 9), EARLIEST, ("earliest_if_capacity", 0, 2),
                    ("set_capacity", 0, 9), EARLIEST)
        self.assertEqual(found[len(BUILDING):], [[1], [3], [3], [2], [1]])

    def test_never(self):
        start = building_calls([(20, 0), (0, 1)], [(0, 1, 9, 1)])
        self.refused(start, ("earliest_if_capacity", 0, 3), -33)
        self.answered(start, ("earliest_if_capacity", 0, 4), [5])
        for capacity in range(1, 10):
            self.refused(STUCK, ("earliest_if_capacity", 0, capacity), -33)

    def test_no_such_passage(self):
        for passage in (1, 2, 8, LARGEST):
            self.refused(BUILDING, ("earliest_if_capacity", passage, 1), -2)
        self.refused([("create",)], ("earliest_if_capacity", 0, 1), -2)

    def test_no_such_capacity(self):
        for capacity in (0, 10, 65536, LARGEST):
            self.refused(BUILDING, ("earliest_if_capacity", 0, capacity), -22)

    def test_several_errors_at_once(self):
        self.refused(BUILDING, ("earliest_if_capacity", 1, 0), -2)
        self.refused(STUCK, ("earliest_if_capacity", LARGEST, LARGEST), -2)
        self.refused(STUCK, ("earliest_if_capacity", 1, 1), -2)
        self.refused(STUCK, ("earliest_if_capacity", 0, 0), -22)
        self.refused(STUCK, ("earliest_if_capacity", 0, 10), -22)


class TestEarliestIfPeople(EarliestCase):
    def test_each_number(self):
        for people in range(21):
            call = ("earliest_if_people", 0, people)
            if people <= 10:
                self.answered(BUILDING, call, [(people + 1) // 2])
            else:
                self.refused(BUILDING, call, -33)

    def test_people_of_an_exit(self):
        for people in (0, 7, 20):
            self.answered(BUILDING, ("earliest_if_people", 1, people), [3])

    def test_the_area_stays_an_exit_or_none(self):
        self.answered(building_calls([(5, 1)], []), ("earliest_if_people", 0, 20), [0])
        self.refused(building_calls([(0, 0)], []), ("earliest_if_people", 0, 1), -33)

    def test_the_other_areas_keep_their_people(self):
        self.answered(CORRIDOR, ("earliest_if_people", 1, 1), [4])
        self.answered(CORRIDOR, ("earliest_if_people", 1, 2), [5])
        self.refused(CORRIDOR, ("earliest_if_people", 1, 3), -33)
        self.refused(STUCK, ("earliest_if_people", 0, 0), -33)
        self.answered(STUCK, ("earliest_if_people", 1, 0), [3])

    def test_no_people_at_all(self):
        self.answered(BUILDING, ("earliest_if_people", 0, 0), [0])
        self.answered(building_calls([(20, 0)], []), ("earliest_if_people", 0, 0), [0])

    def test_the_earliest_evacuation_stays(self):
        found = run(*BUILDING, ("earliest_if_people", 0, 10), EARLIEST, ("earliest_if_people", 0, 20), EARLIEST,
                    ("set_people", 0, 10), EARLIEST)
        self.assertEqual(found[len(BUILDING):], [[5], [3], [-33], [3], [5], [5]])

    def test_no_such_area(self):
        for area in (2, 3, 5, LARGEST):
            self.refused(BUILDING, ("earliest_if_people", area, 1), -2)
        self.refused([("create",)], ("earliest_if_people", 0, 0), -2)

    def test_too_many_people(self):
        for people in (21, 22, 65536, LARGEST):
            self.refused(BUILDING, ("earliest_if_people", 0, people), -22)
            self.refused(BUILDING, ("earliest_if_people", 1, people), -22)

    def test_several_errors_at_once(self):
        self.refused(BUILDING, ("earliest_if_people", 2, 21), -2)
        self.refused(STUCK, ("earliest_if_people", LARGEST, LARGEST), -2)
        self.refused(STUCK, ("earliest_if_people", 3, 0), -2)
        self.refused(STUCK, ("earliest_if_people", 0, 21), -22)


class TestMaxPeople(EarliestCase):
    def test_each_minute(self):
        for minute in MINUTES:
            self.answered(BUILDING, ("max_people", 0, minute), [2 * minute])

    def test_the_people_who_are_there_do_not_matter(self):
        for people in (0, 1, 6, 7, 20):
            self.answered(building_calls([(people, 0), (0, 1)], PASSAGES), ("max_people", 0, 3), [6])

    def test_20_at_most(self):
        self.answered(building_calls([(0, 0), (0, 1)], [(0, 1, 9, 1)]), ("max_people", 0, 2), [18])
        self.answered(building_calls([(0, 0), (0, 1)], [(0, 1, 9, 1)]), ("max_people", 0, 3), [20])
        self.answered(building_calls([(0, 0), (0, 1)], [(0, 1, 5, 1)]), ("max_people", 0, 4), [20])

    def test_an_exit(self):
        for minute in MINUTES:
            self.answered(building_calls([(3, 1)], []), ("max_people", 0, minute), [20])
            if minute >= 3:
                self.answered(BUILDING, ("max_people", 1, minute), [20])
            else:
                self.refused(BUILDING, ("max_people", 1, minute), -33)

    def test_the_other_areas_keep_their_people(self):
        self.answered(CORRIDOR, ("max_people", 1, 4), [1])
        self.answered(CORRIDOR, ("max_people", 1, 5), [2])
        self.refused(CORRIDOR, ("max_people", 1, 3), -33)
        self.answered(STUCK, ("max_people", 1, 3), [0])

    def test_not_all_even_with_nobody_in_the_area(self):
        for minute in MINUTES:
            self.refused(STUCK, ("max_people", 0, minute), -33)
            self.refused(STUCK, ("max_people", 2, minute), -33)

    def test_without_exits(self):
        # Nobody else is in the building: as long as nobody is in the area, all are out.
        for minute in MINUTES:
            self.answered(building_calls([(5, 0), (0, 0)], [(0, 1, 9, 1)]), ("max_people", 0, minute), [0])
            self.refused(building_calls([(5, 0), (0, 0)], [(0, 1, 9, 1)]), ("max_people", 1, minute), -33)

    def test_at_minute_0(self):
        self.answered(building_calls([(5, 0), (4, 1)], [(0, 1, 9, 1)]), ("max_people", 0, 0), [0])
        self.refused(building_calls([(5, 0), (4, 1)], [(0, 1, 9, 1)]), ("max_people", 1, 0), -33)

    def test_no_such_area(self):
        for area in (2, 3, 5, LARGEST):
            self.refused(BUILDING, ("max_people", area, 3), -2)
        self.refused([("create",)], ("max_people", 0, 0), -2)

    def test_edges_of_the_minute(self):
        self.answered(BUILDING, ("max_people", 0, 5), [10])
        for minute in (6, 7, 65536, LARGEST):
            self.refused(BUILDING, ("max_people", 0, minute), -22)

    def test_several_errors_at_once(self):
        self.refused(BUILDING, ("max_people", 2, 6), -2)
        self.refused(STUCK, ("max_people", LARGEST, LARGEST), -2)
        self.refused(STUCK, ("max_people", 3, 0), -2)
        self.refused(STUCK, ("max_people", 0, 6), -22)


class TestCriticalPassages(EarliestCase):
    def test_all_out_just_in_time(self):
        self.answered(building_calls([(6, 0), (0, 1)], PASSAGES), CRITICAL, [1, 0])
        self.answered(building_calls([(8, 0), (0, 1)], [(0, 1, 4, 1)]), CRITICAL, [1, 0])

    def test_room_to_spare(self):
        # The last minute isn't used to the full, and yet 2 a minute would be too few for 7 people in 3 minutes.
        self.answered(building_calls([(7, 0), (0, 1)], [(0, 1, 3, 1)]), CRITICAL, [1, 0])
        self.answered(building_calls([(8, 0), (0, 1)], [(0, 1, 9, 1)]), CRITICAL, [0])
        self.answered(building_calls([(3, 0), (0, 1)], [(0, 1, 5, 1)]), CRITICAL, [0])

    def test_capacity_1_always(self):
        self.answered(CORRIDOR, CRITICAL, [1, 1])
        self.answered(building_calls([(0, 0), (0, 1)], [(1, 0, 1, 1), (0, 1, 2, 1), (0, 1, 1, 3)]), CRITICAL, [2, 0, 2])
        self.answered(building_calls([(4, 0), (4, 1)], [(0, 1, 4, 1), (1, 0, 1, 1), (0, 1, 1, 3)]), CRITICAL,
                      [3, 0, 1, 2])

    def test_in_increasing_order(self):
        # The ones with capacity 1 stand among those whose capacity is just enough.
        areas = [(2, 0), (3, 0), (4, 0), (0, 0), (0, 1)]
        passages = [(0, 4, 2, 1), (3, 4, 1, 1), (1, 4, 3, 1), (3, 4, 9, 1), (2, 4, 4, 1), (4, 0, 1, 3), (3, 0, 2, 1)]
        self.answered(building_calls(areas, passages), CRITICAL, [5, 0, 1, 2, 4, 5])

    def test_all_eight(self):
        passages = [(0, 1, 1, 1)] * 4 + [(0, 1, 2, 1)] * 4
        self.answered(building_calls([(12, 0), (0, 1)], passages), CRITICAL, [8, 0, 1, 2, 3, 4, 5, 6, 7])
        self.answered(building_calls([(11, 0), (0, 1)], passages), CRITICAL, [4, 0, 1, 2, 3])

    def test_several_passages_between_the_same_areas(self):
        # Either may be narrower by 1, though not both.
        self.answered(building_calls([(5, 0), (0, 1)], [(0, 1, 3, 1), (0, 1, 3, 1)]), CRITICAL, [0])
        self.answered(building_calls([(6, 0), (0, 1)], [(0, 1, 3, 1), (0, 1, 3, 1)]), CRITICAL, [2, 0, 1])

    def test_passages_that_leave_an_exit(self):
        self.answered(building_calls([(4, 0), (0, 1), (0, 0)], [(0, 1, 4, 1), (1, 2, 9, 1), (1, 2, 1, 1)]), CRITICAL,
                      [2, 0, 2])

    def test_no_areas_passages_or_people(self):
        self.answered([("create",)], CRITICAL, [0])
        self.answered(building_calls([(5, 1)], []), CRITICAL, [0])
        self.answered(building_calls([(0, 0), (0, 0)], [(0, 1, 2, 1), (1, 0, 9, 1)]), CRITICAL, [0])

    def test_no_earliest_evacuation(self):
        self.refused(STUCK, CRITICAL, -33)
        self.refused(building_calls([(1, 0)], []), CRITICAL, -33)
        self.refused(building_calls([(11, 0), (0, 1)], [(0, 1, 2, 1), (1, 0, 1, 1)]), CRITICAL, -33)

    def test_what_changed_is_what_counts(self):
        found = run(*BUILDING, CRITICAL, ("set_people", 0, 1), CRITICAL, ("set_capacity", 0, 1), CRITICAL,
                    ("reverse_passages",), CRITICAL, ("set_people", 0, 0), CRITICAL, ("remove_passage", 0), CRITICAL)
        self.assertEqual(found[len(BUILDING)::2], [[1, 0], [0], [1, 0], [-33], [1, 0], [0]])


class TestComparedWithAllCuts(unittest.TestCase):
    def buildings(self, seed, count):
        chance = random.Random(seed)
        for _ in range(count):
            areas, passages = easy_building(chance)
            if len(areas) <= 4:
                yield chance, areas, passages

    def test_earliest_evacuation(self):
        found = []
        for chance, areas, passages in self.buildings(31, 150):
            expected = oracle.earliest(areas, passages)
            self.assertEqual(answers_of(areas, passages, EARLIEST), [[expected]], (areas, passages))
            found.append(expected)
        self.assertEqual(set(found), {-33, 0, 1, 2, 3, 4, 5})

    def test_if_the_capacity_were_another(self):
        for chance, areas, passages in self.buildings(32, 60):
            place, capacity = chance.randrange(len(passages)), chance.randint(1, 9)
            source, target, _, travel_time = passages[place]
            others = [*passages[:place], (source, target, capacity, travel_time), *passages[place + 1:]]
            expected = oracle.earliest(areas, others)
            self.assertEqual(answers_of(areas, passages, ("earliest_if_capacity", place, capacity)), [[expected]],
                             (areas, passages, place, capacity))

    def test_if_the_people_were_others(self):
        for chance, areas, passages in self.buildings(33, 60):
            place, people = chance.randrange(len(areas)), chance.randint(0, 20)
            others = [*areas[:place], (people, areas[place][1]), *areas[place + 1:]]
            expected = oracle.earliest(others, passages)
            self.assertEqual(answers_of(areas, passages, ("earliest_if_people", place, people)), [[expected]],
                             (areas, passages, place, people))

    def test_max_people_is_exact(self):
        found = []
        for chance, areas, passages in self.buildings(34, 60):
            place, minute = chance.randrange(len(areas)), chance.randint(1, 4)
            fine = []
            for people in range(21):
                others = [*areas[:place], (people, areas[place][1]), *areas[place + 1:]]
                fine.append(oracle.can_all_be_out(others, passages, minute))
            self.assertEqual(fine, sorted(fine, reverse=True))
            expected = fine.count(True) - 1 if fine[0] else -33
            found.append(expected)
            self.assertEqual(answers_of(areas, passages, ("max_people", place, minute)), [[expected]],
                             (areas, passages, place, minute))
        self.assertLess(6, len(set(found)), found)

    def test_critical_passages(self):
        found = []
        for chance, areas, passages in self.buildings(35, 80):
            minute = oracle.earliest(areas, passages)
            expected = [-33]
            if minute != -33:
                critical = []
                for number, (source, target, capacity, travel_time) in enumerate(passages):
                    narrower = (source, target, capacity - 1, travel_time)
                    others = [*passages[:number], narrower, *passages[number + 1:]]
                    if capacity == 1 or not oracle.can_all_be_out(areas, others, minute):
                        critical.append(number)
                expected = [len(critical), *critical]
            found.append(expected[0])
            self.assertEqual(answers_of(areas, passages, CRITICAL), [expected], (areas, passages))
        self.assertLess(4, len(set(found)), found)


class TestRequirements(unittest.TestCase):
    def buildings(self, seed):
        chance = random.Random(seed)
        for make in (any_building, easy_building):
            for _ in range(60):
                yield make(chance)

    def test_the_earliest_is_the_first_minute_with_nobody_remaining(self):
        for areas, passages in self.buildings(41):
            found = answers_of(areas, passages, *[("min_remaining", minute) for minute in MINUTES], EARLIEST)
            remaining = [answer[0] for answer in found[:6]]
            self.assertEqual(found[6], [remaining.index(0) if 0 in remaining else -33], (areas, passages))

    def test_a_larger_capacity_never_delays(self):
        for areas, passages in self.buildings(42):
            for number in range(len(passages)):
                calls = [("earliest_if_capacity", number, capacity) for capacity in range(1, 10)]
                found = [or_never(answer[0]) for answer in answers_of(areas, passages, *calls)]
                self.assertEqual(found, sorted(found, reverse=True), (areas, passages, number))

    def test_a_larger_capacity_never_evacuates_fewer(self):
        for areas, passages in self.buildings(43):
            for number in range(len(passages)):
                calls = []
                for capacity in range(1, 10):
                    calls.extend([("set_capacity", number, capacity), ("max_evacuated", 3)])
                found = answers_of(areas, passages, *calls)[1::2]
                self.assertEqual(found, sorted(found), (areas, passages, number))

    def test_what_would_be_is_what_is_once_it_is_so(self):
        chance = random.Random(44)
        for areas, passages in self.buildings(45):
            area, people = chance.randrange(len(areas)), chance.randint(0, 20)
            calls = [("earliest_if_people", area, people), ("set_people", area, people), EARLIEST]
            if passages:
                number, capacity = chance.randrange(len(passages)), chance.randint(1, 9)
                calls += [("earliest_if_capacity", number, capacity), ("set_capacity", number, capacity), EARLIEST]
            found = answers_of(areas, passages, *calls)
            self.assertEqual(found[0::3], found[2::3], (areas, passages, calls))

    def test_max_people_is_exact(self):
        chance = random.Random(46)
        for areas, passages in self.buildings(47):
            area, minute = chance.randrange(len(areas)), chance.randint(0, 5)
            calls = [("max_people", area, minute)]
            for people in range(21):
                calls.extend([("set_people", area, people), ("min_remaining", minute)])
            found = answers_of(areas, passages, *calls)
            all_out = [answer == [0] for answer in found[2::2]]
            limit = found[0][0]
            self.assertEqual(all_out, [people <= limit for people in range(21)], (areas, passages, area, minute))


if __name__ == "__main__":
    unittest.main()
