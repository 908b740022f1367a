"""Lets a test name its calls, and cuts what is given back into one answer for each."""

import itertools

from rulesfound.rings import answers

CALLS = (
    "begin", "at", "names", "name", "views", "view", "who", "mark", "unmark", "markapart", "marks", "rules", "set",
    "rule", "good", "goods", "found", "take", "many", "best", "needed", "why", "allat", "nth", "told",
)
GREATEST = 4294967295


def flat(calls):
    numbers = []
    for call in calls:
        words = call.split()
        numbers.append(CALLS.index(words[0]))
        numbers.extend(int(word) for word in words[1:])
    return numbers


def cut(given):
    found = []
    start = 0
    while start < len(given):
        end = start + 1 + given[start]
        found.append(given[start + 1:end])
        if given[start] < 1 or end > len(given):
            raise AssertionError(f"the count at {start} is wrong: {given}")
        start = end
    return found


def ask(*calls):
    numbers = flat(calls)
    if len(calls) > 30 or len(numbers) > 200:
        raise AssertionError(f"no such line is handed in: {calls}")
    found = cut(answers(numbers))
    if len(found) != len(calls):
        raise AssertionError(f"{len(calls)} calls, but {len(found)} answers: {found}")
    return found


def last(*calls):
    return ask(*calls)[-1]


def marking(names):
    return [f"mark {i}" for i in names]


def subsets(numbers):
    for size in range(len(numbers) + 1):
        yield from itertools.combinations(numbers, size)
