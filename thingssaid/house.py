"""A house: its axioms, its named things, what is said of them, and the ties between them."""

from thingssaid.concepts import NAME, NAMES, ROLES, atoms_of, is_just
from thingssaid.kinds import Kinds
from thingssaid.told import told_model
from thingssaid.ways import SURELY, Ways

BEGINS = 0
LINE = 1
THING = 2
SAYS = 3
TIE = 4
UNSAY = 5
UNTIE = 6
WHOLE = 7
IS = 8
WHO = 9
NAMES_OF_ALL = 10
MODEL = 11

# By a call's number: how many whole numbers it has, and whether a row stands behind them.
WHOLE_NUMBERS = (0, 0, 0, 1, 3, 1, 1, 0, 1, 0, 0, 0)
HAS_ROW = (False, True, False, True, False, False, False, False, True, True, False, False)

MALFORMED = -1
NONE_SUCH = -2
IMPOSSIBLE = -6
FULL = -7

MOST_AXIOMS = 5
MOST_ATOMS = 5
MOST_THINGS = 3
MOST_SAID = 6
MOST_TIES = 6


class House:
    """What one list of calls is about."""

    def __init__(self):
        self.begins()

    def begins(self):
        """Make all as at the beginning."""
        self.axioms = []
        self.things = 0
        self.said = []
        self.ties = []
        return 0

    def atoms_with(self, rows):
        """The atoms of the axioms, then of all that's said, then of more rows of concepts."""
        return atoms_of(self.axioms + [pair[1] for pair in self.said] + rows)

    def has_room_for(self, row):
        """Whether the atoms stay few enough if a row of concepts comes to the axioms and all that's said."""
        return len(self.atoms_with([row])) <= MOST_ATOMS

    def ways_with(self, rows):
        """The ways in which all that's said can be so, by kinds that tell of the atoms of more rows too."""
        return Ways(Kinds(self.axioms, self.atoms_with(rows)), self.things, self.said, self.ties)

    def line(self, concepts):
        """Take an axiom, and answer which it is."""
        if not is_just(concepts, 2):
            return MALFORMED
        if len(self.axioms) >= MOST_AXIOMS or not self.has_room_for(concepts):
            return FULL
        self.axioms.append(concepts)
        return len(self.axioms) - 1

    def thing(self):
        """Take a new thing, and answer its number."""
        if self.things >= MOST_THINGS:
            return FULL
        self.things = self.things + 1
        return self.things - 1

    def says(self, thing, concept):
        """Say a concept of a thing, and answer which it is of all that's said."""
        if not is_just(concept, 1):
            return MALFORMED
        if thing >= self.things:
            return NONE_SUCH
        if len(self.said) >= MOST_SAID or not self.has_room_for(concept):
            return FULL
        self.said.append((thing, concept))
        return len(self.said) - 1

    def tie(self, role, one, other):
        """Tie a thing to one by a role, and answer which tie it is."""
        if role >= ROLES:
            return MALFORMED
        if one >= self.things or other >= self.things:
            return NONE_SUCH
        if len(self.ties) >= MOST_TIES:
            return FULL
        self.ties.append((role, one, other))
        return len(self.ties) - 1

    def unsay(self, which):
        """Take back one that's said, and answer how much is said then."""
        if which >= len(self.said):
            return NONE_SUCH
        self.said.pop(which)
        return len(self.said)

    def untie(self, which):
        """Take back a tie, and answer how many there are then."""
        if which >= len(self.ties):
            return NONE_SUCH
        self.ties.pop(which)
        return len(self.ties)

    def whole(self):
        """Answer whether it can all be so."""
        return 1 if self.ways_with([]).can_be() else 0

    def how_sure(self, thing, concept):
        """Answer how sure it is that a thing has a concept."""
        if not is_just(concept, 1):
            return MALFORMED
        if thing >= self.things:
            return NONE_SUCH
        if not self.has_room_for(concept):
            return FULL
        ways = self.ways_with([concept])
        if not ways.can_be():
            return IMPOSSIBLE
        return ways.how_sure(concept, ways.kinds_of(thing))

    def who(self, concept):
        """Answer how many things surely have a concept, then which."""
        if not is_just(concept, 1):
            return [MALFORMED]
        if not self.has_room_for(concept):
            return [FULL]
        ways = self.ways_with([concept])
        if not ways.can_be():
            return [IMPOSSIBLE]
        sure = [thing for thing in range(self.things) if ways.how_sure(concept, ways.kinds_of(thing)) == SURELY]
        return [len(sure)] + sure

    def names(self):
        """Answer how many things there are, then for each thing how sure each name is."""
        ways = self.ways_with([])
        if not ways.can_be():
            return [IMPOSSIBLE]
        told = [self.things]
        for thing in range(self.things):
            among = ways.kinds_of(thing)
            told.extend([ways.how_sure_name((NAME, name), among) for name in range(NAMES)])
        return told

    def model(self):
        """Answer the told model."""
        ways = self.ways_with([])
        if not ways.can_be():
            return [IMPOSSIBLE]
        return told_model(ways.kinds, ways.first_way(), self.ties)


class Call:
    """A call as it is told in the list of calls; end is the place behind it."""

    def __init__(self, number, numbers, row, end):
        self.number = number
        self.numbers = numbers
        self.row = row
        self.end = end


def call_at(calls, at):
    """The call that begins at a place in the list of calls."""
    number = calls[at]
    behind = at + 1 + WHOLE_NUMBERS[number]
    numbers = calls[at + 1:behind]
    if not HAS_ROW[number]:
        return Call(number, numbers, (), behind)
    end = behind + 1 + calls[behind]
    return Call(number, numbers, tuple(calls[behind + 1:end]), end)


def number_of(house, call):
    """What a house answers to a call that is answered by one number alone."""
    numbers = call.numbers
    if call.number == BEGINS:
        return house.begins()
    if call.number == LINE:
        return house.line(call.row)
    if call.number == THING:
        return house.thing()
    if call.number == SAYS:
        return house.says(numbers[0], call.row)
    if call.number == TIE:
        return house.tie(numbers[0], numbers[1], numbers[2])
    if call.number == UNSAY:
        return house.unsay(numbers[0])
    if call.number == UNTIE:
        return house.untie(numbers[0])
    if call.number == WHOLE:
        return house.whole()
    return house.how_sure(numbers[0], call.row)


def numbers_of(house, call):
    """All numbers that a house answers to a call."""
    if call.number == WHO:
        return house.who(call.row)
    if call.number == NAMES_OF_ALL:
        return house.names()
    if call.number == MODEL:
        return house.model()
    return [number_of(house, call)]


def answers(calls):
    """What a new house answers to calls, one behind another: for each how many numbers, then these."""
    house = House()
    told = []
    at = 0
    while at < len(calls):
        call = call_at(calls, at)
        answered = numbers_of(house, call)
        told.append(len(answered))
        told.extend(answered)
        at = call.end
    return told
