"""The one way in: a list of calls is answered by a list of numbers."""

from gluetilesdesk.instance import Session
from gluetilesdesk.operations import add_seed, add_tile_kind, attach, clear_attached, create, grow
from gluetilesdesk.operations import remove_seed, set_strength, set_threshold, undo_attach
from gluetilesdesk.reading import ADD_SEED, ADD_TILE_KIND, ALTERNATIVES, ATTACH, CLEAR_ATTACHED, CREATE
from gluetilesdesk.reading import FIRST_ALTERNATIVE, GET_GRID, GET_TILE_KIND, GRID_WITHOUT, GROW, IS_UNIQUE
from gluetilesdesk.reading import MAX_PREREQUISITES, PARALLEL_ROUNDS, PREREQUISITES, REMOVE_SEED, SET_STRENGTH
from gluetilesdesk.reading import SET_THRESHOLD, STATUS, TERMINAL_GRID, UNDO_ATTACH, given_begin, given_end
from gluetilesdesk.refusals import NO_INSTANCE
from gluetilesdesk.reports import alternatives, first_alternative, get_grid, get_tile_kind, grid_without
from gluetilesdesk.reports import independent_positions, is_unique, max_prerequisites, parallel_rounds
from gluetilesdesk.reports import prerequisites, status, terminal_grid


# The calls from ADD_TILE_KIND to GROW, which may change the instance.
def answer_change(instance, number, given):
    if number == ADD_TILE_KIND:
        return add_tile_kind(instance, given)
    if number == SET_STRENGTH:
        return set_strength(instance, given[0], given[1])
    if number == SET_THRESHOLD:
        return set_threshold(instance, given[0])
    if number == ADD_SEED:
        return add_seed(instance, given[0], given[1], given[2])
    if number == REMOVE_SEED:
        return remove_seed(instance, given[0], given[1])
    if number == ATTACH:
        return attach(instance, given[0], given[1], given[2])
    if number == UNDO_ATTACH:
        return undo_attach(instance)
    if number == CLEAR_ATTACHED:
        return clear_attached(instance)
    return grow(instance)


# The calls behind GROW, which only report values.
def answer_report(instance, number, given):
    if number == PARALLEL_ROUNDS:
        return parallel_rounds(instance)
    if number == GET_GRID:
        return get_grid(instance)
    if number == GET_TILE_KIND:
        return get_tile_kind(instance, given[0])
    if number == STATUS:
        return status(instance)
    if number == IS_UNIQUE:
        return is_unique(instance)
    if number == FIRST_ALTERNATIVE:
        return first_alternative(instance)
    if number == ALTERNATIVES:
        return alternatives(instance)
    if number == TERMINAL_GRID:
        return terminal_grid(instance)
    if number == GRID_WITHOUT:
        return grid_without(instance, given[0], given[1])
    if number == PREREQUISITES:
        return prerequisites(instance, given[0], given[1])
    if number == MAX_PREREQUISITES:
        return max_prerequisites(instance)
    return independent_positions(instance)


def answer_call(session, number, given):
    if number == CREATE:
        return create(session, given[0], given[1], given[2])
    if session.instance is None:
        return [NO_INSTANCE]
    if number <= GROW:
        return answer_change(session.instance, number, given)
    return answer_report(session.instance, number, given)


# For each call, in order: how many numbers are answered, then these.
def answers(calls):
    session = Session()
    written = []
    at = 0
    while at < len(calls):
        end = given_end(calls, at)
        answered = answer_call(session, calls[at], calls[given_begin(calls, at):end])
        written.append(len(answered))
        written.extend(answered)
        at = end
    return written
