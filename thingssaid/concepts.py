"""Concepts, told in rows of whole numbers, and the atoms that are in them.

A row tells a concept before its parts, so a walk from left to right meets
each concept ahead of what is in it. No tree is built: a concept stays the
piece of the row that it stands in.
"""

EVERYTHING = 0
NOTHING = 1
NAME = 2
BOTH = 3
EITHER = 4
NOT = 5
SOME = 6
EVERY = 7

NAMES = 4
ROLES = 2


def choices(sort):
    """How many names or roles can stand behind a concept's first number; 0: none stands there."""
    if sort == NAME:
        return NAMES
    if sort == SOME or sort == EVERY:
        return ROLES
    return 0


def parts(sort):
    """Of how many concepts a concept with this first number is made."""
    if sort == BOTH or sort == EITHER:
        return 2
    if sort == NOT or sort == SOME or sort == EVERY:
        return 1
    return 0


def is_atom(sort):
    """Whether a concept with this first number is an atom."""
    return sort == NAME or sort == SOME or sort == EVERY


def head_length(row, at):
    """How many numbers stand ahead of the parts of the concept that begins at a place; 0: none begins there."""
    if at >= len(row) or row[at] > EVERY:
        return 0
    many = choices(row[at])
    if many == 0:
        return 1
    if at + 1 >= len(row) or row[at + 1] >= many:
        return 0
    return 2


def concept_end(row, start):
    """The place behind the concept that begins at start; -1 if there is no whole concept."""
    at = start
    missing = 1
    while missing > 0:
        length = head_length(row, at)
        if length == 0:
            return -1
        missing = missing - 1 + parts(row[at])
        at = at + length
    return at


def is_just(row, many):
    """Whether a row is just so many concepts, one behind the other."""
    at = 0
    for turn in range(many):
        at = concept_end(row, at)
        if at < 0:
            return False
    return at == len(row)


def heads(row):
    """The places at which the concepts of a row begin, also those within one another, from left to right."""
    places = []
    at = 0
    while at < len(row):
        places.append(at)
        at = at + head_length(row, at)
    return places


def atom_at(row, at):
    """The atom that begins at a place: the tuple of the numbers that it is told in."""
    return tuple(row[at:concept_end(row, at)])


def atoms_of(rows):
    """The atoms of rows of concepts, each once, in the order in which they are met.

    Two atoms are the same only if they stand there the same, whatever
    they mean.
    """
    atoms = []
    for row in rows:
        for at in heads(row):
            if is_atom(row[at]):
                atom = atom_at(row, at)
                if atom not in atoms:
                    atoms.append(atom)
    return atoms
