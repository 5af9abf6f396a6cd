"""Many lists of calls, against another way to find the answers: by trees, from the whole past."""

import random
import unittest

from tests.helper import BEGINS, HIGHEST, THING, ask, joined, line, says, tie, unsay

LISTS = 1500


def tree_at(row):
    """A concept's tree, and what's left of the row behind it; None if there's none."""
    if not row or row[0] > 7:
        return None
    head, rest = [row[0]], row[1:]
    most = {2: 4, 6: 2, 7: 2}.get(row[0])
    if most is not None:
        if not rest or rest[0] >= most:
            return None
        head, rest = head + [rest[0]], rest[1:]
    for part in range({3: 2, 4: 2, 5: 1, 6: 1, 7: 1}.get(row[0], 0)):
        found = tree_at(rest)
        if found is None:
            return None
        head, rest = head + [found[0]], found[1]
    return tuple(head), rest


def trees(row, many):
    """The trees of just so many concepts, or None."""
    found = []
    for turn in range(many):
        one = tree_at(row)
        if one is None:
            return None
        found, row = found + [one[0]], one[1]
    return None if row else found


def atoms(tree):
    inner = [atoms(part) for part in tree if isinstance(part, tuple)]
    own = {tree} if tree[0] in (2, 6, 7) else set()
    return own.union(*inner)


def too_many(kept):
    return len(set().union(*[atoms(tree) for tree in kept])) > 5


class Past:
    """What the calls so far have left: axioms as pairs of trees, things, pairs of a thing and a tree, ties."""

    def __init__(self):
        self.axioms, self.things, self.said, self.ties = [], [], [], []

    def trees(self):
        return [tree for pair in self.axioms for tree in pair] + [tree for thing, tree in self.said]

    def put(self, where, what, most):
        if len(where) == most:
            return -7
        where.append(what)
        return len(where) - 1

    def answer(self, call):
        if call[0] == 0:
            self.__init__()
            return 0
        if call[0] == 1:
            found = trees(call[2:], 2)
            if found is None:
                return -1
            return -7 if too_many(self.trees() + found) else self.put(self.axioms, found, 5)
        if call[0] == 2:
            return self.put(self.things, len(self.things), 3)
        if call[0] == 3:
            found = trees(call[3:], 1)
            if found is None:
                return -1
            if call[1] not in self.things:
                return -2
            return -7 if too_many(self.trees() + found) else self.put(self.said, (call[1], found[0]), 6)
        if call[0] == 4:
            if call[1] not in (0, 1):
                return -1
            if call[2] not in self.things or call[3] not in self.things:
                return -2
            return self.put(self.ties, call[1:], 6)
        if call[1] not in range(len(self.said)):
            return -2
        self.said = self.said[:call[1]] + self.said[call[1] + 1:]
        return len(self.said)


def some_concept(source, depth):
    sort = source.choice((0, 1, 2, 2, 2, 3, 4, 5, 6, 7) if depth > 0 else (0, 1, 2, 2, 2))
    head = {2: [2, source.choice((0, 0, 1, 1, 2, 3))], 6: [6, source.randrange(2)], 7: [7, source.randrange(2)]}
    row = list(head.get(sort, [sort]))
    for part in range({3: 2, 4: 2, 5: 1, 6: 1, 7: 1}.get(sort, 0)):
        row += some_concept(source, depth - 1)
    return row


def some_row(source, many):
    row = joined([some_concept(source, source.randrange(3)) for turn in range(many)])[:30]
    if source.random() < 0.15:
        at = source.randrange(len(row) + 1)
        row = source.choice((row[:at], row + [0], row[:at] + [source.choice((2, 4, 8, HIGHEST))] + row[at:]))[:30]
    return row


def some_call(source):
    sort = source.choice((1, 1, 2, 3, 3, 3, 3, 4, 4, 5, 5, source.choice((0, 2))))
    if sort == 0:
        return BEGINS
    if sort == 1:
        return line(some_row(source, 2))
    if sort == 2:
        return THING
    number = source.choice((0, 0, 0, 1, 1, 2, 3, HIGHEST))
    if sort == 3:
        return says(number, *some_row(source, 1))
    if sort == 4:
        return tie(source.choice((0, 0, 1, 1, 2)), number, source.choice((0, 0, 1, 2, 3)))
    return unsay(source.choice((0, 1, 2, 3, 4, 5, HIGHEST)))


def some_list(source):
    calls = []
    for turn in range(source.randint(1, 60)):
        call = some_call(source)
        if len(joined(calls)) + len(call) <= 2000:
            calls.append(call)
    return calls


class ManyLists(unittest.TestCase):
    def test_the_answers_are_those_of_the_past(self):
        source = random.Random(20261118)
        met = {}
        for turn in range(LISTS):
            calls = some_list(source)
            past = Past()
            told = [past.answer(call) for call in calls]
            self.assertEqual(ask(*calls), told, calls)
            for call, answer in zip(calls, told):
                met[call[0], answer] = True
        # What was never met was never tried: all answers of all calls must be among these.
        wanted = ([(0, 0)] + [(1, n) for n in (-1, -7, 0, 4)] + [(2, n) for n in (-7, 0, 2)]
                  + [(3, n) for n in (-1, -2, -7, 0, 5)] + [(4, n) for n in (-1, -2, -7, 0, 5)]
                  + [(5, n) for n in (-2, 0, 5)])
        self.assertEqual([pair for pair in wanted if pair not in met], [])


if __name__ == "__main__":
    unittest.main()
