"""Kinds of things: a kind says of each of some atoms whether it holds.

A kind is a number: bit k tells of atom k. (The document has another word
for kinds, which may not stand here.)

An atom 6 that holds, or an atom 7 that doesn't, needs some thing to which
one comes; a thing serves an atom 6 if what's in it holds, an atom 7 if
what's in it doesn't. So a kind fits to another one just if all that the
other one serves by the role is needed, and is borne out if all that it
needs is served by one to which it fits.
"""

from thingssaid.concepts import BOTH, EVERY, EVERYTHING, NAME, NOT, NOTHING, SOME, atom_at, concept_end, heads, is_atom

NO_KIND = -1


def atom_holds(number, kind):
    """Whether the atom with a number holds in a kind."""
    return (kind >> number) & 1 == 1


def holds(concept, atoms, kind):
    """Whether a concept, all of whose atoms are among these, holds in a kind."""
    known = []
    # From right to left a concept's parts are known ahead of it, and its first part is known last.
    for at in reversed(heads(concept)):
        sort = concept[at]
        if is_atom(sort):
            if sort != NAME:
                known.pop()
            known.append(atom_holds(atoms.index(atom_at(concept, at)), kind))
        elif sort == EVERYTHING or sort == NOTHING:
            known.append(sort == EVERYTHING)
        elif sort == NOT:
            known.append(not known.pop())
        else:
            first = known.pop()
            second = known.pop()
            known.append((first and second) if sort == BOTH else (first or second))
    return known.pop()


def keeps(axiom, atoms, kind):
    """Whether the second concept of an axiom holds in a kind if the first one does."""
    end = concept_end(axiom, 0)
    return not holds(axiom[:end], atoms, kind) or holds(axiom[end:], atoms, kind)


def needed_by(atoms, kind):
    """The numbers of the atoms for which a kind needs some thing."""
    needed = []
    for number, atom in enumerate(atoms):
        if atom[0] == SOME and atom_holds(number, kind):
            needed.append(number)
        if atom[0] == EVERY and not atom_holds(number, kind):
            needed.append(number)
    return needed


def served_by(atoms, kind):
    """The numbers of the atoms that a thing of a kind serves."""
    served = []
    for number, atom in enumerate(atoms):
        if atom[0] == SOME and holds(atom[2:], atoms, kind):
            served.append(number)
        if atom[0] == EVERY and not holds(atom[2:], atoms, kind):
            served.append(number)
    return served


class Kinds:
    """The kinds over some atoms; there are those that can be there if the axioms are kept, rising."""

    def __init__(self, axioms, atoms):
        every = list(range(1 << len(atoms)))
        self.atoms = atoms
        self.needed = [needed_by(atoms, kind) for kind in every]
        self.served = [served_by(atoms, kind) for kind in every]
        keeping = [kind for kind in every if all([keeps(axiom, atoms, kind) for axiom in axioms])]
        self.there = self.largest_within(keeping)

    def fits(self, kind, other, role):
        """Whether it fits from a kind to another one by a role."""
        for number in self.served[other]:
            if self.atoms[number][1] == role and number not in self.needed[kind]:
                return False
        return True

    def lowest_serving(self, kind, number, among):
        """The first of some kinds that bears an atom of a kind out; NO_KIND if none does."""
        role = self.atoms[number][1]
        for other in among:
            if number in self.served[other] and self.fits(kind, other, role):
                return other
        return NO_KIND

    def bears_out(self, among, kind):
        """Whether some kinds bear a kind out."""
        for number in self.needed[kind]:
            if self.lowest_serving(kind, number, among) == NO_KIND:
                return False
        return True

    def largest_within(self, among):
        """The largest set within some kinds that bears each kind of it out, in their order."""
        kept = among
        going = True
        # What goes may have been all that bore another one out.
        while going:
            left = [kind for kind in kept if self.bears_out(kept, kind)]
            going = len(left) < len(kept)
            kept = left
        return kept

    def names_of(self, kind):
        """The names that hold in a kind, as a sum of 2 to the a for name a."""
        total = 0
        for number, atom in enumerate(self.atoms):
            if atom[0] == NAME and atom_holds(number, kind):
                total = total + (1 << atom[1])
        return total
