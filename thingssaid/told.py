"""The told model: the named things, each of a kind, and behind them the unnamed ones that they need."""


class Told:
    """A model while it's told: kinds_there has the kind of each thing that it has so far."""

    def __init__(self, kinds, way, ties):
        self.kinds = kinds
        self.ties = ties
        self.named = len(way)
        self.kinds_there = list(way)
        self.unnamed = {}
        if self.named == 0:
            self.unnamed_of(kinds.there[0])

    def unnamed_of(self, kind):
        """The unnamed thing of a kind; where it isn't there yet it comes behind all others."""
        if kind not in self.unnamed:
            self.unnamed[kind] = len(self.kinds_there)
            self.kinds_there.append(kind)
        return self.unnamed[kind]

    def steps_from(self, thing):
        """The roles and things by which and to which one comes from a thing, each once."""
        steps = [(role, other) for role, one, other in self.ties if one == thing]
        kind = self.kinds_there[thing]
        for number in self.kinds.needed[kind]:
            served_at = self.unnamed_of(self.kinds.lowest_serving(kind, number, self.kinds.there))
            steps.append((self.kinds.atoms[number][1], served_at))
        once = []
        for step in steps:
            if step not in once:
                once.append(step)
        return once

    def numbers_of(self, thing):
        """What is told of a thing: its names, to how many things one comes, and each role and thing."""
        steps = self.steps_from(thing)
        numbers = [self.kinds.names_of(self.kinds_there[thing]), len(steps)]
        for role, other in steps:
            numbers.append(role)
            numbers.append(other)
        return numbers


def told_model(kinds, way, ties):
    """The numbers of the told model, in which the named things have the kinds of a way."""
    told = Told(kinds, way, ties)
    numbers = []
    thing = 0
    # What is needed by one thing comes behind, and may need others itself.
    while thing < len(told.kinds_there):
        numbers.extend(told.numbers_of(thing))
        thing = thing + 1
    return [len(told.kinds_there)] + numbers
