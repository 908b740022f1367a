"""Every setting of begin, held against a slow reckoning that shares nothing with the program."""

import itertools
import unittest

from calling import ask, last


def turned_and_mirrored(text):
    for one in (text, text[::-1]):
        for far in range(len(one)):
            yield one[far:] + one[:far]


def names(places, robots):
    found = set()
    for spots in itertools.combinations_with_replacement(range(places), robots):
        found.add(min(turned_and_mirrored("".join(str(spots.count(place)) for place in range(places)))))
    return sorted(found)


def told(many, eyes):
    return many if eyes == 0 else {"0": "0", "1": "1"}.get(many, "2" if eyes == 1 else "1")


def both_rows(name, place, eyes):
    looks = "".join(told(many, eyes) for many in name)
    around = looks[place:] + looks[:place]
    return around, around[0] + around[:0:-1]


def views_of_name(name, eyes):
    return [both_rows(name, place, eyes) for place, many in enumerate(name) if many != "0"]


def views(places, eyes, robots):
    found = {}
    for name in names(places, robots):
        for rows in views_of_name(name, eyes):
            found[min(rows)] = rows[0] == rows[1]
    return sorted(found.items())


def digits(text):
    return [int(sign) for sign in text]


def settings():
    for places, eyes, robots in itertools.product(range(3, 8), range(3), range(1, 4)):
        yield places, eyes, robots, f"begin {places} {eyes} {robots} 0"


class AllRings(unittest.TestCase):
    def test_names(self):
        for places, eyes, robots, begin in settings():
            wanted = names(places, robots)
            self.assertEqual(last(begin, "names"), [len(wanted)], begin)
            found = ask(begin, *(f"name {i}" for i in range(len(wanted) + 1)))[1:]
            self.assertEqual(found, [[places] + digits(name) for name in wanted] + [[-2]], begin)

    def test_views_and_rules(self):
        for places, eyes, robots, begin in settings():
            wanted = views(places, eyes, robots)
            self.assertEqual(ask(begin, "views"), [[len(wanted)]] * 2, begin)
            found = ask(begin, *(f"view {v}" for v in range(len(wanted) + 1)))[1:]
            self.assertEqual(found, [[int(even)] + digits(row) for row, even in wanted] + [[-2]], begin)
            evens = sum(even for row, even in wanted)
            self.assertEqual(last(begin, "rules"), [2 ** evens * 3 ** (len(wanted) - evens)], begin)

    def test_who(self):
        for places, eyes, robots, begin in settings():
            order = [row for row, even in views(places, eyes, robots)]
            wanted = []
            for name in names(places, robots):
                had = list(dict.fromkeys(order.index(min(rows)) for rows in views_of_name(name, eyes)))
                wanted.append([len(had)] + had)
            found = ask(begin, *(f"who {i}" for i in range(len(wanted) + 1)))[1:]
            self.assertEqual(found, wanted + [[-2]], begin)

    def test_markapart(self):
        for places, eyes, robots, begin in settings():
            apart = [i for i, name in enumerate(names(places, robots)) if name.count("1") == robots]
            self.assertEqual(ask(begin, "markapart", "marks")[1:], [[len(apart)], [len(apart)] + apart], begin)

    def test_set(self):
        for places, eyes, robots, begin in settings():
            for v, (row, even) in enumerate(views(places, eyes, robots)):
                wanted = [[0], [1], [-22], [1], [0]] if even else [[0], [1], [-22], [1], [2]]
                calls = (f"set {v} 1", f"set {v} 1", f"set {v} 3", f"set {v} {0 if even else 2}", f"set {v} 0")
                self.assertEqual(ask(begin, *calls)[1:], wanted, (begin, row))
                self.assertEqual(last(begin, f"set {v} 2"), [-22] if even else [0], (begin, row))


if __name__ == "__main__":
    unittest.main()
