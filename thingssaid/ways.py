"""The ways in which the named things can be of kinds, and what is sure of them by that."""

from thingssaid.kinds import holds

SURELY_NOT = 0
MAY_BE = 1
SURELY = 2


class Ways:
    """The ways to give each named thing a kind that can be there, such that all that's said of them is so.

    said has pairs of a thing and a concept; ties have a role, from which
    thing and to which one comes.
    """

    def __init__(self, kinds, things, said, ties):
        self.kinds = kinds
        self.choices = [list(kinds.there) for thing in range(things)]
        self.ties = ties
        for thing, concept in said:
            self.choices[thing] = [kind for kind in self.choices[thing] if holds(concept, kinds.atoms, kind)]

    def last_fits(self, way):
        """Whether the last thing of a way begun fits by its ties to itself and to those ahead of it."""
        last = len(way) - 1
        for role, one, other in self.ties:
            if max(one, other) == last and not self.kinds.fits(way[one], way[other], role):
                return False
        return True

    def first_behind(self, way, choices):
        """The first way that goes on as a way begun; None if there's none."""
        if len(way) == len(choices):
            return way
        for kind in choices[len(way)]:
            longer = way + [kind]
            if self.last_fits(longer):
                found = self.first_behind(longer, choices)
                if found is not None:
                    return found
        return None

    def first_way(self):
        """The first of all ways; None if there's none."""
        return self.first_behind([], self.choices)

    def can_be(self):
        """Whether it can all be so."""
        # Without named things there's a way, but a model still has some thing.
        return len(self.kinds.there) > 0 and self.first_way() is not None

    def kinds_of(self, thing):
        """The kinds that a named thing has in some way."""
        found = []
        for kind in self.choices[thing]:
            choices = self.choices[:thing] + [[kind]] + self.choices[thing + 1:]
            if self.first_behind([], choices) is not None:
                found.append(kind)
        return found

    def how_sure(self, concept, among):
        """How sure a concept is of a thing that can have just these kinds."""
        found = [holds(concept, self.kinds.atoms, kind) for kind in among]
        if all(found):
            return SURELY
        if any(found):
            return MAY_BE
        return SURELY_NOT

    def how_sure_name(self, name, among):
        """How sure a name is, likewise."""
        # Of a name that nothing speaks of all models can be had with it and without it.
        if name not in self.kinds.atoms:
            return MAY_BE
        return self.how_sure(name, among)
