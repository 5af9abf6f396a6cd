"""Writes calls as the interface tells them, and takes the answers apart."""

from thingssaid.house import answers

HIGHEST = 4294967295

BEGINS = [0]
THING = [2]


def line(*concepts):
    row = [number for concept in concepts for number in concept]
    return [1, len(row)] + row


def says(thing, *concept):
    return [3, thing, len(concept)] + list(concept)


def tie(role, one, other):
    return [4, role, one, other]


def unsay(which):
    return [5, which]


def joined(calls):
    return [number for call in calls for number in call]


def ask(*calls):
    """The answers to the calls, one a call; each must be one number alone."""
    told = answers(joined(calls))
    if told[0::2] != [1] * len(calls):
        raise AssertionError(f"not one number for each of {len(calls)} calls: {told}")
    return told[1::2]
