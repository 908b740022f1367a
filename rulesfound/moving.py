"""What one move may make of a ring, by what is told of the views in it."""

from rulesfound.shapes import lesser_row, name_of, row_from, seen

ONE_GOES = 0
SOME_GO = 1


def steps_of(looks, place, done):
    if done == 0:
        return []
    onward = row_from(looks, place, 1)
    backward = row_from(looks, place, -1)
    # Both for an even-handed robot: which one it takes is chosen against it.
    if onward == backward:
        return [1, -1]
    return [1] if (onward < backward) == (done == 1) else [-1]


def eager_robots(ring, eyes, told):
    # One by one those of one place too, for each of them goes or stays by itself.
    looks = seen(ring, eyes)
    eager = []
    for place, robots in enumerate(ring):
        steps = steps_of(looks, place, told[lesser_row(looks, place)]) if robots > 0 else []
        if len(steps) > 0:
            eager.extend([(place, steps)] * robots)
    return eager


def some_of(robots):
    chosen = [[]]
    for robot in robots:
        chosen = chosen + [few + [robot] for few in chosen]
    # The first is nobody, and that is no move.
    return chosen[1:]


def who_may_go(eager, moves):
    if len(eager) == 0:
        return []
    if moves == ONE_GOES:
        return [[robot] for robot in eager]
    return some_of(eager) if moves == SOME_GO else [eager]


def with_one_gone(ring, place, step):
    there = (place + step) % len(ring)
    after = list(ring)
    after[place] = after[place] - 1
    after[there] = after[there] + 1
    return tuple(after)


def rings_after(ring, going):
    # Where each may go was told by what all saw ahead of the move, so they can be moved one behind another.
    rings = [ring]
    for place, steps in going:
        further = []
        for step in steps:
            further.extend([with_one_gone(before, place, step) for before in rings])
        rings = further
    return rings


def names_after(ring, eyes, told, moves):
    # None if nobody is eager.
    names = {}
    for going in who_may_go(eager_robots(ring, eyes, told), moves):
        for after in rings_after(ring, going):
            names[name_of(after)] = True
    return sorted(names)
