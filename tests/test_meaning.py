"""What the answers mean: against models themselves, without any word of types or atoms."""

import itertools
import random
import unittest

from tests.helper import MODEL, NAMES, THING, WHOLE, ask_each, line, says, sure, tie
from tests.past import trees
from tests.test_many_lists import some_atoms, some_mixture

HOUSES = 1500
HOUSES_OF_SMALL_MODELS = 150


class Model:
    """named: for each thing its names; steps: pairs of a role and another thing, from each thing."""

    def __init__(self, named, steps):
        self.named, self.steps = named, steps

    def has(self, thing, tree):
        if tree[0] in (0, 1):
            return tree[0] == 0
        if tree[0] == 2:
            return tree[1] in self.named[thing]
        if tree[0] == 5:
            return not self.has(thing, tree[1])
        if tree[0] in (3, 4):
            both = [self.has(thing, part) for part in tree[1:]]
            return all(both) if tree[0] == 3 else any(both)
        reached = [self.has(other, tree[2]) for role, other in self.steps[thing] if role == tree[1]]
        return any(reached) if tree[0] == 6 else all(reached)

    def keeps(self, axioms):
        return all(self.has(thing, second) for first, second in axioms for thing in range(len(self.named))
                   if self.has(thing, first))

    def is_of(self, house, places):
        """Whether all that's said is so if the named things are these things of the model."""
        return (all(self.has(places[thing], trees(list(row), 1)[0]) for thing, row in house.said)
                and all((role, places[other]) in self.steps[places[one]] for role, one, other in house.ties))


class House:
    """Something to ask about, and the calls that tell it."""

    def __init__(self, source, pool, roles):
        self.things = source.choice((0, 1, 2, 2, 3, 3))
        self.rows = [(some_mixture(source, pool, 1), some_mixture(source, pool, 1))
                     for turn in range(source.choice((0, 1, 1, 2)))]
        self.said, self.ties = [], []
        if self.things > 0:
            self.said = [(source.randrange(self.things), tuple(some_mixture(source, pool, 2)))
                         for turn in range(source.randint(0, 4))]
            self.ties = [(source.randrange(roles), source.randrange(self.things), source.randrange(self.things))
                         for turn in range(source.randint(0, 5))]
        self.axioms = [trees(first + second, 2) for first, second in self.rows]

    def fits_in(self):
        """Whether none of its rows is too long."""
        return all(len(first + second) <= 30 for first, second in self.rows) and all(
            len(row) < 29 for thing, row in self.said)

    def calls(self):
        return ([line(first, second) for first, second in self.rows] + [THING] * self.things
                + [says(thing, *row) for thing, row in self.said] + [tie(*one) for one in self.ties])

    def ask(self, *more):
        told = ask_each(*self.calls(), *more)
        if min(answer[0] for answer in told[:-1] + [[0]]) < 0:
            raise AssertionError(f"one is refused: {told}")
        return told[-1]


def some_house(source, names=4, roles=2):
    """A house that can be told, and a concept of its atoms."""
    while True:
        pool = some_atoms(source, names, roles)
        house, concept = House(source, pool, roles), some_mixture(source, pool, 2)
        if house.fits_in() and len(concept) < 30:
            return house, concept


def model_told(numbers):
    """The model that is told in numbers; every number must be as the interface says."""
    named, steps = [], []
    at = 1
    for thing in range(numbers[0]):
        named.append([name for name in range(4) if numbers[at] >> name & 1])
        pairs = numbers[at + 2:at + 2 + 2 * numbers[at + 1]]
        steps.append(list(zip(pairs[0::2], pairs[1::2])))
        if numbers[at] > 15 or len(steps[-1]) != numbers[at + 1] or len(set(steps[-1])) != len(steps[-1]):
            raise AssertionError(f"not a model: {numbers}")
        at += 2 + len(pairs)
    if at != len(numbers) or any(role > 1 or other >= numbers[0] for pairs in steps for role, other in pairs):
        raise AssertionError(f"not a model: {numbers}")
    return Model(named, steps)


class ToldModels(unittest.TestCase):
    def check_model(self, house, numbers):
        model = model_told(numbers)
        self.assertGreaterEqual(len(model.named), max(1, house.things))
        self.assertTrue(model.keeps(house.axioms), house.calls())
        self.assertTrue(model.is_of(house, range(house.things)), house.calls())
        return model

    def check_sure(self, house, concept, thing):
        """What may be and what may not be are each shown by a model, and what is sure has none against it."""
        number = house.ask(sure(thing, *concept))[0]
        tree = trees(list(concept), 1)[0]
        self.assertEqual(house.ask(says(thing, *concept), WHOLE), [0 if number == 0 else 1])
        self.assertEqual(house.ask(says(thing, 5, *concept), WHOLE), [0 if number == 2 else 1])
        if number > 0:
            model = self.check_model(house, house.ask(says(thing, *concept), MODEL))
            self.assertTrue(model.has(thing, tree))
        if number < 2:
            model = self.check_model(house, house.ask(says(thing, 5, *concept), MODEL))
            self.assertFalse(model.has(thing, tree))
        return number

    def test_each_is_a_model_of_all_that_is_said(self):
        source = random.Random(7)
        met = {}
        for turn in range(HOUSES):
            house, concept = some_house(source)
            can_be = house.ask(WHOLE)[0]
            met["whole", can_be] = True
            if can_be == 0:
                self.assertEqual(house.ask(MODEL), [-6])
                continue
            self.check_model(house, house.ask(MODEL))
            for thing in range(house.things):
                met["is", self.check_sure(house, concept, thing)] = True
        self.assertEqual(len(met), 5)


def some_of(what):
    return itertools.chain.from_iterable(itertools.combinations(what, many) for many in range(len(what) + 1))


def small_models(size):
    """All models of a size, with the names 0 and 1 and with role 0 alone."""
    pairs = list(itertools.product(range(size), range(size)))
    for named in itertools.product(list(some_of((0, 1))), repeat=size):
        for chosen in some_of(pairs):
            yield Model(named, [[(0, other) for one, other in chosen if one == thing] for thing in range(size)])


class SmallModels(unittest.TestCase):
    def test_no_small_model_is_against_what_is_answered(self):
        source = random.Random(11)
        models = list(small_models(1)) + list(small_models(2))
        shown = [self.check(models, *some_house(source, names=2, roles=1)) for turn in range(HOUSES_OF_SMALL_MODELS)]
        # Of some houses no model must be found, and of most of them many.
        self.assertIn(0, shown)
        self.assertGreater(sum(shown), 10 * HOUSES_OF_SMALL_MODELS)

    def check(self, models, house, concept):
        tree = trees(concept, 1)[0]
        can_be = house.ask(WHOLE)[0]
        told = house.ask(NAMES)
        numbers = [house.ask(sure(thing, *concept))[0] for thing in range(house.things)] if can_be else []
        shown = 0
        for model in models:
            if not model.keeps(house.axioms):
                continue
            for places in itertools.product(range(len(model.named)), repeat=house.things):
                if model.is_of(house, places):
                    shown += 1
                    self.assertEqual(can_be, 1, house.calls())
                    for thing, place in enumerate(places):
                        self.assertNotEqual(numbers[thing], 0 if model.has(place, tree) else 2, house.calls())
                        for name in range(4):
                            against = 0 if name in model.named[place] else 2
                            self.assertNotEqual(told[1 + 4 * thing + name], against, house.calls())
        return shown


if __name__ == "__main__":
    unittest.main()
