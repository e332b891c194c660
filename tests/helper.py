"""Calls written by name, and their answers taken apart again."""

from knownroads.router import answers

MOST_NUMBER = 4294967295
MOST_BYTES = 65536


def begin(me):
    return [0, me]


def line(p, nb, cost):
    return [1, p, nb, cost]


def hear(p, octets):
    return [2, p, len(octets)] + list(octets)


def following(p, most=MOST_BYTES):
    """The call ro_next."""
    return [3, p, most]


def look(x, most=MOST_BYTES):
    return [4, x, most]


def far(d):
    return [5, d]


def ways(d):
    return [6, d]


def message(name, number, *roads):
    """The bytes that tell of `name`, with roads as (router, cost), well formed or not."""
    octets = [name, len(roads)] + list(number.to_bytes(4, "big"))
    for to, cost in roads:
        octets += [to] + list(cost.to_bytes(2, "big"))
    return octets


def ask(*calls):
    """The answers to these calls, a list for each call."""
    numbers = []
    for call in calls:
        numbers += call
    given = answers(numbers)
    taken = []
    at = 0
    while at < len(given):
        end = at + 1 + given[at]
        assert given[at] >= 1 and end <= len(given), given
        taken.append(given[at + 1:end])
        at = end
    assert len(taken) == len(calls), (taken, calls)
    return taken


def last(*calls):
    """The answer to the last of these calls."""
    return ask(*calls)[-1]


def waiting(calls, p):
    """What waits on line p after these calls, message by message as ro_next gives them."""
    told = []
    for answer in ask(*calls, *[following(p)] * 65)[len(calls):]:
        if answer == [-1]:
            break
        assert answer[0] == len(answer) - 1, answer
        told.append(answer[1:])
    return told


def names_waiting(calls, p):
    return [octets[0] for octets in waiting(calls, p)]


def all_known(calls, up):
    """All that is known after these calls: it waits where a line that is up comes up anew.

    `up` is the call that brought that line up, so that no road is other by it.
    """
    return waiting(calls + [up], up[1])
