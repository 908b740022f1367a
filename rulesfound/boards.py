"""What one object keeps: its rings and views, what is marked, and the rule of now."""

from rulesfound.shapes import even_handed, names_of, views_in, views_of


def numbers_of_views(ring, eyes, views):
    return [views.index(view) for view in views_in(ring, eyes)]


class Board:
    def __init__(self, places, eyes, robots, moves):
        self.places = places
        self.eyes = eyes
        self.robots = robots
        self.moves = moves
        self.names = names_of(places, robots)
        self.views = views_of(self.names, eyes)
        self.had = [numbers_of_views(ring, eyes, self.views) for ring in self.names]
        self.marked = {}
        self.rule = [0] * len(self.views)
        # Filled as they are asked for: neither marks nor the rule of now change what stands in them.
        self.known_moves = {}
        self.known_sure = {}


def most_told(view):
    return 1 if even_handed(view) else 2


def how_many_rules(board):
    rules = 1
    for view in board.views:
        rules = rules * (most_told(view) + 1)
    return rules


def rules_in_order(board):
    rules = [()]
    for view in board.views:
        longer = []
        for rule in rules:
            longer.extend([rule + (done,) for done in range(most_told(view) + 1)])
        rules = longer
    return rules
