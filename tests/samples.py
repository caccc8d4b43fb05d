"""Buildings that several test files share, and what the listings answer for them."""

from tests.session import building_calls

AREAS = [(5, 0), (0, 1), (20, 0)]
PASSAGES = [(0, 1, 2, 1), (1, 2, 9, 3), (0, 1, 4, 2)]
BUILDING = building_calls(AREAS, PASSAGES)
AREA_LIST = [3, 5, 0, 0, 1, 20, 0]
PASSAGE_LIST = [3, 0, 1, 2, 1, 1, 2, 9, 3, 0, 1, 4, 2]
FULL_AREAS = building_calls([(people, 0) for people in range(5)], [])
FULL_PASSAGES = building_calls([(5, 0), (0, 1)], [(0, 1, capacity, 1) for capacity in range(1, 9)])
