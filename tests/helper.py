"""Writes calls as the interface tells them, and takes the answers apart."""

from thingssaid.house import answers

HIGHEST = 4294967295

BEGINS = [0]
THING = [2]
WHOLE = [7]
NAMES = [10]
MODEL = [11]


def line(*concepts):
    row = [number for concept in concepts for number in concept]
    return [1, len(row)] + row


def says(thing, *concept):
    return [3, thing, len(concept)] + list(concept)


def tie(role, one, other):
    return [4, role, one, other]


def unsay(which):
    return [5, which]


def untie(which):
    return [6, which]


def sure(thing, *concept):
    """The call is, whose own name Python keeps for itself."""
    return [8, thing, len(concept)] + list(concept)


def who(*concept):
    return [9, len(concept)] + list(concept)


def joined(calls):
    return [number for call in calls for number in call]


def apart(told):
    """The answers in what is given back, a list for each call."""
    found = []
    at = 0
    while at < len(told):
        found.append(told[at + 1:at + 1 + told[at]])
        if len(found[-1]) != told[at] or told[at] < 1:
            raise AssertionError(f"not as many numbers as are told at {at}: {told}")
        at += 1 + told[at]
    return found


def ask_each(*calls):
    """The answers to the calls, a list for each call."""
    found = apart(answers(joined(calls)))
    if len(found) != len(calls):
        raise AssertionError(f"not an answer for each of {len(calls)} calls: {found}")
    return found


def ask(*calls):
    """The answers to the calls, one a call; each must be one number alone."""
    found = ask_each(*calls)
    if [len(answer) for answer in found] != [1] * len(calls):
        raise AssertionError(f"not one number for each of {len(calls)} calls: {found}")
    return joined(found)


def last(*calls):
    """The answer to the last one of the calls, when none of the others is refused."""
    found = ask_each(*calls)
    if min(answer[0] for answer in found[:-1] + [[0]]) < 0:
        raise AssertionError(f"one is refused: {found}")
    return found[-1]
