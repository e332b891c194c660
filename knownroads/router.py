"""A list of calls on one router, and the list of what they answer."""

from knownroads.state import Router

RO_BEGIN = 0
RO_LINE = 1
RO_HEAR = 2
RO_NEXT = 3
RO_LOOK = 4
RO_FAR = 5

# How many numbers a call has, by its number (ro_ways's is 6): of ro_hear those ahead of the bytes.
CALL_LENGTHS = (2, 4, 3, 3, 3, 2, 2)


def answers(calls):
    """What these calls answer, one behind another, each with how many numbers it answers before it."""
    router = Router()
    answered = []
    at = 0
    while at < len(calls):
        end = call_end(calls, at)
        answer = answer_to(router, calls[at:end])
        answered.append(len(answer))
        answered.extend(answer)
        at = end
    return answered


def call_end(calls, at):
    end = at + CALL_LENGTHS[calls[at]]
    if calls[at] == RO_HEAR:
        end += calls[at + 2]
    return end


def answer_to(router, call):
    if call[0] == RO_BEGIN:
        return router.begin(call[1])
    if call[0] == RO_LINE:
        return router.set_line(call[1], call[2], call[3])
    if call[0] == RO_HEAR:
        return router.hear(call[1], call[3:])
    if call[0] == RO_NEXT:
        return router.tell_next(call[1], call[2])
    if call[0] == RO_LOOK:
        return router.look(call[1], call[2])
    if call[0] == RO_FAR:
        return router.least_cost(call[1])
    # The one that is left is ro_ways.
    return router.lines_on(call[1])
