"""Lets a test name its calls, and cuts what is given back into one answer for each."""

from rulesfound.rings import answers

CALLS = (
    "begin", "at", "names", "name", "views", "view", "who", "mark", "unmark", "markapart", "marks", "rules", "set",
    "rule", "good", "goods", "found", "take", "many", "best", "needed", "why", "allat", "nth", "told",
)
GREATEST = 4294967295


def flat(calls):
    numbers = []
    for call in calls:
        words = call.split()
        numbers.append(CALLS.index(words[0]))
        numbers.extend(int(word) for word in words[1:])
    return numbers


def cut(given):
    found = []
    start = 0
    while start < len(given):
        end = start + 1 + given[start]
        found.append(given[start + 1:end])
        if given[start] < 1 or end > len(given):
            raise AssertionError(f"the count at {start} is wrong: {given}")
        start = end
    return found


def ask(*calls):
    found = cut(answers(flat(calls)))
    if len(found) != len(calls):
        raise AssertionError(f"{len(calls)} calls, but {len(found)} answers: {found}")
    return found


def last(*calls):
    return ask(*calls)[-1]
