"""Many lists of calls, against another way to find the answers."""

import random
import unittest

from tests.helper import (
    BEGINS, HIGHEST, MODEL, NAMES, THING, WHOLE, ask_each, joined, line, says, sure, tie, unsay, untie, who)
from tests.past import Past

LISTS_OF_CHANGES = 1500
LISTS_OF_ALL = 2500
LISTS_OF_FULL_HOUSES = 800

CHANGES = (1, 1, 2, 3, 3, 3, 3, 4, 4, 4, 5, 5, 6)
ALL = CHANGES + (2, 3, 4, 4, 7, 8, 8, 8, 9, 10, 11, 11, 11)
FULL_HOUSES = (1, 3, 3, 4, 4, 4, 5, 6, 7, 8, 8, 8, 9, 10, 11, 11)

# No list is asked that has more of these.
GROUPS = {7: "one", 8: "one", 11: "one", 9: "many", 10: "many"}
MOST = {"one": 12, "many": 3}


def some_concept(source, depth):
    sort = source.choice((0, 1, 2, 2, 2, 3, 4, 5, 6, 7) if depth > 0 else (0, 1, 2, 2, 2))
    head = {2: [2, source.choice((0, 0, 1, 1, 2, 3))], 6: [6, source.randrange(2)], 7: [7, source.randrange(2)]}
    row = list(head.get(sort, [sort]))
    for part in range({3: 2, 4: 2, 5: 1, 6: 1, 7: 1}.get(sort, 0)):
        row += some_concept(source, depth - 1)
    return row


def some_row(source, many):
    row = joined([some_concept(source, source.randrange(3)) for turn in range(many)])[:30]
    if source.random() < 0.1:
        at = source.randrange(len(row) + 1)
        row = source.choice((row[:at], row + [0], row[:at] + [source.choice((2, 4, 8, HIGHEST))] + row[at:]))[:30]
    return row


def some_call(source, sort):
    number = source.choice((0, 0, 0, 1, 1, 2, 3, HIGHEST))
    alone = {0: BEGINS, 2: THING, 7: WHOLE, 10: NAMES, 11: MODEL}
    if sort in alone:
        return alone[sort]
    if sort == 1:
        return line(some_row(source, 2))
    if sort == 3:
        return says(number, *some_row(source, 1))
    if sort == 4:
        return tie(source.choice((0, 0, 1, 1, 2)), number, source.choice((0, 0, 1, 2, 3)))
    if sort in (5, 6):
        which = source.choice((0, 1, 2, 3, 4, 5, HIGHEST))
        return unsay(which) if sort == 5 else untie(which)
    return sure(number, *some_row(source, 1)) if sort == 8 else who(*some_row(source, 1))


def some_atoms(source, names=4, roles=2):
    """Five atoms at most: names, and concepts 6 and 7 with some of those ahead of them within."""
    pool = [[2, name] for name in source.sample(range(names), source.randint(1, min(names, 3)))]
    for turn in range(source.randint(0, 5 - len(pool))):
        pool.append([source.choice((6, 6, 7)), source.randrange(roles)] + some_mixture(source, pool, 1))
    return pool


def some_mixture(source, pool, depth):
    """A concept made of some of these atoms."""
    sort = source.choice((0, 2, 2, 2, 3, 4, 4, 5, 5)) if depth > 0 else 2
    if sort == 0:
        return [source.choice((0, 0, 1))]
    if sort == 2:
        return source.choice(pool)
    if sort == 5:
        return [5] + some_mixture(source, pool, depth - 1)
    return [sort] + some_mixture(source, pool, depth - 1) + some_mixture(source, pool, depth - 1)


def some_call_about(source, pool, sort):
    """A call about things that are there mostly, with no more than the atoms of a pool."""
    if sort == 1:
        row = some_mixture(source, pool, 1) + some_mixture(source, pool, 1)
        return line(row) if len(row) <= 30 else WHOLE
    if sort == 4:
        return tie(source.randrange(2), source.randrange(3), source.randrange(3))
    row = some_mixture(source, pool, 2)
    if sort not in (3, 8, 9) or len(row) > 30:
        return some_call(source, sort)
    thing = source.randrange(3)
    return {3: says(thing, *row), 8: sure(thing, *row), 9: who(*row)}[sort]


def allowed(calls):
    """The calls, without those that would be too many for one list."""
    kept = []
    asked = {}
    for call in calls:
        group = GROUPS.get(call[0])
        if len(joined(kept)) + len(call) <= 2000 and asked.get(group, 0) < MOST.get(group, 60):
            asked[group] = asked.get(group, 0) + 1
            kept.append(call)
    return kept[:60] or [BEGINS]


def some_full_house(source, sorts):
    """Calls about a house that has many kinds of things, most of which are not refused."""
    pool = some_atoms(source)
    calls = [THING] * source.choice((0, 1, 2, 3, 3, 3))
    calls += [some_call_about(source, pool, source.choice((1, 3, 3, 4, 4))) for turn in range(source.randint(0, 10))]
    calls += [some_call_about(source, pool, source.choice(sorts)) for turn in range(source.randint(1, 40))]
    return allowed(calls)


def some_list(source, sorts):
    """Calls of all sorts, many of which are refused."""
    turns = range(source.randint(1, 60))
    return allowed([some_call(source, source.choice(sorts) if source.random() > 0.03 else 0) for turn in turns])


class ManyLists(unittest.TestCase):
    def check(self, some, lists, sorts, wanted):
        source = random.Random(20261118)
        met = {}
        for turn in range(lists):
            calls = some(source, sorts)
            past = Past()
            told = [past.answer(call) for call in calls]
            self.assertEqual(ask_each(*calls), told, calls)
            for call, answer in zip(calls, told):
                met[call[0], answer[0]] = True
        # What was never met was never tried: all answers of all calls must be among these.
        self.assertEqual([(call, number) for call in wanted for number in wanted[call] if (call, number) not in met],
                         [])

    def test_changes(self):
        self.check(some_list, LISTS_OF_CHANGES, CHANGES, {
            0: [0], 1: [-1, -7, 0, 4], 2: [-7, 0, 2], 3: [-1, -2, -7, 0, 5], 4: [-1, -2, -7, 0, 5], 5: [-2, 0, 5],
            6: [-2, 0, 5]})

    def test_all(self):
        self.check(some_list, LISTS_OF_ALL, ALL, {
            5: [-2, 0, 4], 6: [-2, 0, 4], 7: [0, 1], 8: [-1, -2, -6, -7, 0, 1, 2], 9: [-1, -6, -7, 0, 1, 2, 3],
            10: [-6, 0, 1, 2, 3], 11: [-6, 1, 2, 3, 4, 5, 6]})

    def test_full_houses(self):
        self.check(some_full_house, LISTS_OF_FULL_HOUSES, FULL_HOUSES, {
            5: [-2, 0, 4], 6: [-2, 0, 4], 7: [0, 1], 8: [-2, -6, 0, 1, 2], 9: [-6, 0, 1, 2, 3],
            10: [-6, 0, 1, 2, 3], 11: [-6, 1, 2, 3, 4, 5, 6]})


if __name__ == "__main__":
    unittest.main()
