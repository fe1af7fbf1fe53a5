"""The one way in: a list of calls is answered by a list of numbers."""

from gluetilesdesk.instance import Session
from gluetilesdesk.operations import add_seed, add_tile_kind, attach, clear_attached, create, grow
from gluetilesdesk.operations import parallel_rounds, remove_seed, set_strength, set_threshold, undo_attach
from gluetilesdesk.reading import ADD_SEED, ADD_TILE_KIND, ATTACH, CLEAR_ATTACHED, CREATE, GROW, PARALLEL_ROUNDS
from gluetilesdesk.reading import REMOVE_SEED, SET_STRENGTH, SET_THRESHOLD, UNDO_ATTACH, given_begin, given_end
from gluetilesdesk.refusals import NO_INSTANCE


# The call has a number, but nothing answers it on an instance so far.
class CallNotBuilt(Exception):
    pass


# The calls from ADD_TILE_KIND to GROW, which may change the instance.
def answer_change(instance, number, given):
    if number == ADD_TILE_KIND:
        return add_tile_kind(instance, given)
    if number == SET_STRENGTH:
        return set_strength(instance, given[0], given[1])
    if number == SET_THRESHOLD:
        return set_threshold(instance, given[0])
    if number == ADD_SEED:
        return add_seed(instance, given[0], given[1], given[2])
    if number == REMOVE_SEED:
        return remove_seed(instance, given[0], given[1])
    if number == ATTACH:
        return attach(instance, given[0], given[1], given[2])
    if number == UNDO_ATTACH:
        return undo_attach(instance)
    if number == CLEAR_ATTACHED:
        return clear_attached(instance)
    return grow(instance)


# The calls behind GROW, which only report values.
def answer_report(instance, number):
    if number == PARALLEL_ROUNDS:
        return parallel_rounds(instance)
    raise CallNotBuilt(f"call {number}")


def answer_call(session, number, given):
    if number == CREATE:
        return create(session, given[0], given[1], given[2])
    if session.instance is None:
        return [NO_INSTANCE]
    if number <= GROW:
        return answer_change(session.instance, number, given)
    return answer_report(session.instance, number)


# For each call, in order: how many numbers are answered, then these.
def answers(calls):
    session = Session()
    written = []
    at = 0
    while at < len(calls):
        end = given_end(calls, at)
        answered = answer_call(session, calls[at], calls[given_begin(calls, at):end])
        written.append(len(answered))
        written.extend(answered)
        at = end
    return written
