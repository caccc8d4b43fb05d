"""Buildings by chance; the tests hand in a seeded source, so that every run has the same ones."""


def any_passages(chance, area_count, most_passages, capacities, travel_times):
    passages = []
    for _ in range(chance.randint(0, most_passages)):
        source, target = chance.sample(range(area_count), 2)
        passages.append((source, target, chance.choice(capacities), chance.choice(travel_times)))
    return passages


def any_areas(chance, area_count, most_people, exit_share):
    return [(chance.randint(0, most_people), int(chance.random() < exit_share)) for _ in range(area_count)]


def any_building(chance):
    """Areas and passages of any size within the limits."""
    areas = any_areas(chance, chance.randint(2, 5), 20, 0.3)
    return areas, any_passages(chance, len(areas), 8, range(1, 10), (1, 2, 3))


def easy_building(chance):
    """Areas and passages from which all can be out more often than not."""
    areas = any_areas(chance, chance.randint(1, 4), 7, 0.2) + [(chance.randint(0, 3), 1)]
    passages = any_passages(chance, len(areas), 3, (1, 2, 3, 4), (1, 2))
    for area in range(len(areas) - 1):
        passages.append((area, len(areas) - 1, chance.randint(1, 4), chance.choice((1, 1, 2))))
    return areas, passages
