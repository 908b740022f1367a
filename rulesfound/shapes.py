"""Rings, told by how many robots are at each place: their names, and what robots see in them."""

# By its place: the highest number that eyes of this kind tell; 3 is all there can be at one place.
HIGHEST_SEEN = (3, 2, 1)


def row_from(ring, place, step):
    size = len(ring)
    return tuple([ring[(place + step * far) % size] for far in range(size)])


def lesser_row(ring, place):
    return min(row_from(ring, place, 1), row_from(ring, place, -1))


def even_handed(row):
    return row_from(row, 0, 1) == row_from(row, 0, -1)


def name_of(ring):
    # The rows from all places, both ways round, are just the ring turned and mirrored.
    return min([lesser_row(ring, place) for place in range(len(ring))])


def with_one_place_more(rows, robots):
    longer = []
    for row in rows:
        for here in range(robots - sum(row) + 1):
            longer.append(row + (here,))
    return longer


def names_of(places, robots):
    rows = [()]
    while len(rows[0]) < places:
        rows = with_one_place_more(rows, robots)
    return sorted([row for row in rows if sum(row) == robots and row == name_of(row)])


def seen(ring, eyes):
    return tuple([min(robots, HIGHEST_SEEN[eyes]) for robots in ring])


def views_in(ring, eyes):
    looks = seen(ring, eyes)
    views = []
    for place in range(len(ring)):
        view = lesser_row(looks, place)
        if ring[place] > 0 and view not in views:
            views.append(view)
    return views


def views_of(names, eyes):
    had = {}
    for ring in names:
        for view in views_in(ring, eyes):
            had[view] = True
    return sorted(had)


def all_apart(ring):
    return max(ring) == 1
