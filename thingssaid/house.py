"""A house: its axioms, its named things, what is said of them, and the ties between them."""

from thingssaid.concepts import ROLES, atoms_of, is_just

BEGINS = 0
LINE = 1
THING = 2
SAYS = 3
TIE = 4
UNSAY = 5

# By a call's number: how many whole numbers it has, and whether a row stands behind them.
WHOLE_NUMBERS = (0, 0, 0, 1, 3, 1)
HAS_ROW = (False, True, False, True, False, False)

MALFORMED = -1
NONE_SUCH = -2
FULL = -7

MOST_AXIOMS = 5
MOST_ATOMS = 5
MOST_THINGS = 3
MOST_SAID = 6
MOST_TIES = 6


class House:
    """What one list of calls is about."""

    def __init__(self):
        self.begins()

    def begins(self):
        """Make all as at the beginning."""
        self.axioms = []
        self.things = 0
        self.said = []
        self.ties = []
        return 0

    def has_room_for(self, row):
        """Whether the atoms stay few enough if a row of concepts comes to the axioms and all that's said."""
        rows = self.axioms + [pair[1] for pair in self.said] + [row]
        return len(atoms_of(rows)) <= MOST_ATOMS

    def line(self, concepts):
        """Take an axiom, and answer which it is."""
        if not is_just(concepts, 2):
            return MALFORMED
        if len(self.axioms) >= MOST_AXIOMS or not self.has_room_for(concepts):
            return FULL
        self.axioms.append(concepts)
        return len(self.axioms) - 1

    def thing(self):
        """Take a new thing, and answer its number."""
        if self.things >= MOST_THINGS:
            return FULL
        self.things = self.things + 1
        return self.things - 1

    def says(self, thing, concept):
        """Say a concept of a thing, and answer which it is of all that's said."""
        if not is_just(concept, 1):
            return MALFORMED
        if thing >= self.things:
            return NONE_SUCH
        if len(self.said) >= MOST_SAID or not self.has_room_for(concept):
            return FULL
        self.said.append((thing, concept))
        return len(self.said) - 1

    def tie(self, role, one, other):
        """Tie a thing to one by a role, and answer which tie it is."""
        if role >= ROLES:
            return MALFORMED
        if one >= self.things or other >= self.things:
            return NONE_SUCH
        if len(self.ties) >= MOST_TIES:
            return FULL
        self.ties.append((role, one, other))
        return len(self.ties) - 1

    def unsay(self, which):
        """Take back one that's said, and answer how much is said then."""
        if which >= len(self.said):
            return NONE_SUCH
        self.said.pop(which)
        return len(self.said)


class Call:
    """A call as it is told in the list of calls; end is the place behind it."""

    def __init__(self, number, numbers, row, end):
        self.number = number
        self.numbers = numbers
        self.row = row
        self.end = end


def call_at(calls, at):
    """The call that begins at a place in the list of calls."""
    number = calls[at]
    if number >= len(WHOLE_NUMBERS):
        raise NotImplementedError("a call that is not written yet")
    behind = at + 1 + WHOLE_NUMBERS[number]
    numbers = calls[at + 1:behind]
    if not HAS_ROW[number]:
        return Call(number, numbers, (), behind)
    end = behind + 1 + calls[behind]
    return Call(number, numbers, tuple(calls[behind + 1:end]), end)


def answer_of(house, call):
    """What a house answers to a call: one number."""
    numbers = call.numbers
    if call.number == BEGINS:
        return house.begins()
    if call.number == LINE:
        return house.line(call.row)
    if call.number == THING:
        return house.thing()
    if call.number == SAYS:
        return house.says(numbers[0], call.row)
    if call.number == TIE:
        return house.tie(numbers[0], numbers[1], numbers[2])
    return house.unsay(numbers[0])


def answers(calls):
    """What a new house answers to calls, one behind another: for each how many numbers, then these."""
    house = House()
    told = []
    at = 0
    while at < len(calls):
        call = call_at(calls, at)
        told.append(1)
        told.append(answer_of(house, call))
        at = call.end
    return told
