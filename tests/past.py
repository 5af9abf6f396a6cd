"""Another way to find the answers: by trees, from the whole past, word for word as the document tells it."""

import itertools


def tree_at(row):
    """A concept's tree, and what's left of the row behind it; None if there's none."""
    if not row or row[0] > 7:
        return None
    head, rest = [row[0]], row[1:]
    most = {2: 4, 6: 2, 7: 2}.get(row[0])
    if most is not None:
        if not rest or rest[0] >= most:
            return None
        head, rest = head + [rest[0]], rest[1:]
    for part in range({3: 2, 4: 2, 5: 1, 6: 1, 7: 1}.get(row[0], 0)):
        found = tree_at(rest)
        if found is None:
            return None
        head, rest = head + [found[0]], found[1]
    return tuple(head), rest


def trees(row, many):
    """The trees of just so many concepts, or None."""
    found = []
    for turn in range(many):
        one = tree_at(row)
        if one is None:
            return None
        found, row = found + [one[0]], one[1]
    return None if row else found


def atoms(kept):
    """The atoms of some trees, in order."""
    found = {}
    for tree in kept:
        if tree[0] in (2, 6, 7):
            found.setdefault(tree)
        for atom in atoms([part for part in tree if isinstance(part, tuple)]):
            found.setdefault(atom)
    return list(found)


def true(tree, held):
    """Whether a concept holds where just these atoms hold."""
    if tree[0] in (0, 1):
        return tree[0] == 0
    if tree[0] in (2, 6, 7):
        return tree in held
    if tree[0] == 5:
        return not true(tree[1], held)
    both = [true(part, held) for part in tree[1:]]
    return all(both) if tree[0] == 3 else any(both)


class Types:
    """The types that can be there, each the set of the atoms that hold, the lowest first."""

    def __init__(self, axioms, kept):
        self.atoms = atoms(kept)
        every = [frozenset(atom for k, atom in enumerate(self.atoms) if number >> k & 1)
                 for number in range(2 ** len(self.atoms))]
        self.fitting = {}
        self.there = [held for held in every
                      if all(true(second, held) for first, second in axioms if true(first, held))]
        while True:
            lost = [held for held in self.there if not self.borne_out(held)]
            if not lost:
                break
            self.there.remove(lost[-1])

    def fits(self, one, other, role):
        key = one, other, role
        if key not in self.fitting:
            self.fitting[key] = not any(
                atom[0] == 6 and atom[1] == role and atom not in one and true(atom[2], other)
                or atom[0] == 7 and atom[1] == role and atom in one and not true(atom[2], other)
                for atom in self.atoms)
        return self.fitting[key]

    def needs(self, held):
        return [atom for atom in self.atoms if atom[0] == 6 and atom in held or atom[0] == 7 and atom not in held]

    def bearing(self, held, atom):
        return [other for other in self.there
                if self.fits(held, other, atom[1]) and true(atom[2], other) == (atom[0] == 6)]

    def borne_out(self, held):
        return all(self.bearing(held, atom) for atom in self.needs(held))

    def ways(self, past):
        """All ways to give the named things types, the first one first."""
        found = []
        for way in itertools.product(*[
                [held for held in self.there if all(true(tree, held) for thing, tree in past.said if thing == named)]
                for named in past.things]):
            if all(self.fits(way[one], way[other], role) for role, one, other in past.ties):
                found.append(way)
        return found if self.there else []


def told_model(types, way, ties):
    held_by = list(way) or types.there[:1]
    unnamed = {} if way else {held_by[0]: 0}
    told = []
    for thing in itertools.count():
        if thing == len(held_by):
            return [len(held_by)] + told
        steps = [(role, other) for role, one, other in ties if one == thing]
        for atom in types.needs(held_by[thing]):
            lowest = types.bearing(held_by[thing], atom)[0]
            if lowest not in unnamed:
                unnamed[lowest] = len(held_by)
                held_by.append(lowest)
            steps.append((atom[1], unnamed[lowest]))
        steps = list(dict.fromkeys(steps))
        told += [sum(2 ** atom[1] for atom in held_by[thing] if atom[0] == 2), len(steps)]
        told += [number for step in steps for number in step]


class Past:
    """What the calls so far have left: axioms as pairs of trees, things, pairs of a thing and a tree, ties."""

    def __init__(self):
        self.axioms, self.things, self.said, self.ties = [], [], [], []

    def trees(self):
        return [tree for pair in self.axioms for tree in pair] + [tree for thing, tree in self.said]

    def too_many(self, more):
        return len(atoms(self.trees() + more)) > 5

    def put(self, where, what, most):
        if len(where) == most:
            return -7
        where.append(what)
        return len(where) - 1

    def take(self, where, which):
        if which not in range(len(where)):
            return -2
        del where[which]
        return len(where)

    def answer(self, call):
        """The numbers that are answered, as a list."""
        if call[0] < 7:
            return [self.change(call)]
        if call[0] in (8, 9):
            return self.about(call)
        types = Types(self.axioms, self.trees())
        ways = types.ways(self)
        if call[0] == 7:
            return [1 if ways else 0]
        if not ways:
            return [-6]
        if call[0] == 11:
            return told_model(types, ways[0], self.ties)
        told = [len(self.things)]
        for thing in self.things:
            for name in range(4):
                told.append(self.sure(ways, thing, (2, name)) if (2, name) in types.atoms else 1)
        return told

    def sure(self, ways, thing, tree):
        found = {true(tree, way[thing]) for way in ways}
        return 1 if len(found) == 2 else 2 if True in found else 0

    def about(self, call):
        found = trees(call[3:] if call[0] == 8 else call[2:], 1)
        if found is None:
            return [-1]
        if call[0] == 8 and call[1] not in self.things:
            return [-2]
        if self.too_many(found):
            return [-7]
        ways = Types(self.axioms, self.trees() + found).ways(self)
        if not ways:
            return [-6]
        if call[0] == 8:
            return [self.sure(ways, call[1], found[0])]
        having = [thing for thing in self.things if self.sure(ways, thing, found[0]) == 2]
        return [len(having)] + having

    def change(self, call):
        if call[0] == 0:
            self.__init__()
            return 0
        if call[0] == 1:
            found = trees(call[2:], 2)
            if found is None:
                return -1
            return -7 if self.too_many(found) else self.put(self.axioms, found, 5)
        if call[0] == 2:
            return self.put(self.things, len(self.things), 3)
        if call[0] == 3:
            found = trees(call[3:], 1)
            if found is None:
                return -1
            if call[1] not in self.things:
                return -2
            return -7 if self.too_many(found) else self.put(self.said, (call[1], found[0]), 6)
        if call[0] == 4:
            if call[1] not in (0, 1):
                return -1
            if call[2] not in self.things or call[3] not in self.things:
                return -2
            return self.put(self.ties, call[1:], 6)
        return self.take(self.said if call[0] == 5 else self.ties, call[1])
