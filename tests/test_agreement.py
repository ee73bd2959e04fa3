"""The last sentence of point 14: what a name means by the rows alone is what it has in a world in which nothing failed."""

import random
import unittest

from modulehall.errors import Fell
from modulehall.meanings import meaning
from modulehall.shelves import Shelf
from modulehall.worlds import World

NAMES = "abcx"
PATHS = (("a",), ("b",), ("c",), ("a", "b"), ("a", "x"), ("b", "c"), ("a", "b", "c"))
SORTS = ("plain", "package", "wide")
ROUNDS = 3000


def random_from(chance):
    dots = chance.choice((0, 0, 0, 1, 1, 2))
    path = chance.choice(PATHS) if dots == 0 else chance.choice(((), ("a",), ("b",)))
    if chance.random() < 0.6:
        return ("from", dots, path, "*")
    return ("from", dots, path, ((chance.choice(NAMES), chance.choice(NAMES)),))


def random_row(chance, at):
    word = chance.choice(("let", "def", "box", "use", "lazy", "from", "from", "from", "from"))
    name = chance.choice(NAMES)
    if word == "let":
        return ("let", name, ("num", at))
    if word == "def":
        return ("def", name, (), ())
    if word == "box":
        return ("box", name, (("let", "a", ("num", 1)),))
    if word == "use":
        return ("use", chance.choice(PATHS), chance.choice((name, name, None)))
    if word == "lazy":
        return ("lazy", chance.choice(PATHS), name)
    return random_from(chance)


def random_rows(chance, number):
    rows = [random_row(chance, 10 * number + at) for at in range(chance.choice((0, 1, 1, 2, 2, 3)))]
    if chance.random() < 0.15:
        rows.insert(chance.randrange(len(rows) + 1), ("show", tuple(chance.sample(NAMES, chance.choice((1, 2))))))
    return tuple(rows)


def random_shelf(chance):
    places = {"p": {}, "q": {}}
    for number, path in enumerate(PATHS):
        if chance.random() < 0.8:
            places[chance.choice("ppq")][path] = (chance.choice(SORTS), random_rows(chance, number))
    return Shelf(places)


class Agreement(unittest.TestCase):
    def check(self, shelf, world):
        """Compare each name of each module in the table, and return how many could be compared."""
        compared = 0
        for path in world.table():
            for name in world.names(path):
                sense = meaning(shelf, path, name)
                has = world.value(path, name)
                if sense[0] == "module":
                    self.assertIn(has, (sense, ("lazy", sense[1])), (shelf.places(), path, name))
                    compared += 1
                elif sense[0] == "own":
                    self.assertEqual(has, world.value(sense[1], sense[2]), (shelf.places(), path, name))
                    compared += 1
        return compared

    def test_what_a_name_means_is_what_it_has(self):
        chance = random.Random(14)
        compared = 0
        for _ in range(ROUNDS):
            shelf = random_shelf(chance)
            world = World({"one": shelf})
            try:
                for path in chance.sample(shelf.paths(), len(shelf.paths())):
                    world.load(path)
                    compared += self.check(shelf, world)
            except Fell:
                continue
        self.assertGreater(compared, ROUNDS)


if __name__ == "__main__":
    unittest.main()
