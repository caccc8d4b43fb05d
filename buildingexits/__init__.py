"""Evacuation planner: how many people can leave a building in which time."""
