"""Paths are tuples of 1 to 3 numbers from 0 to 9; Python's order of tuples is theirs."""

LONGEST = 3
GREATEST = 9


def is_path_or_empty(numbers):
    return len(numbers) <= LONGEST and all([number <= GREATEST for number in numbers])


def is_path(numbers):
    return len(numbers) > 0 and is_path_or_empty(numbers)


def is_below(path, top):
    return path[:len(top)] == top
