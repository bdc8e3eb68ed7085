"""Runs: rows of moves, each one made where the one ahead of it leads."""

from watchedworks.errors import BadRun, BadStanding
from watchedworks.keptworks import kept_moves_of, start_of
from watchedworks.kinds import is_states, is_tuple_of
from watchedworks.reach import ways_from


def is_run(works, thing):
    return isinstance(thing, tuple) and wrong_index(works, thing, False) is None


def is_kept_run(works, thing):
    return isinstance(thing, tuple) and wrong_index(works, thing, True) is None


def end_of(works, run):
    check_run(works, run)
    return end_of_moves(works, run)


def words_of(works, run):
    check_run(works, run)
    return tuple([word for word, _ in run])


def way_to(works, standing):
    if not is_states(standing) or standing not in works.kept():
        raise BadStanding(standing)
    return ways_from(start_of(works), kept_moves_of(works))[standing]


def check_run(works, run):
    if not isinstance(run, tuple):
        raise BadRun(-1)
    at = wrong_index(works, run, False)
    if at is not None:
        raise BadRun(at)


def wrong_index(works, run, kept):
    """The index of the first item of a tuple that is not a move there, or not a kept one; None if all are."""
    standing = start_of(works)
    for at, item in enumerate(run):
        moves = works.kept_moves(standing) if kept else works.moves(standing)
        if not is_like_a_move(item) or item not in moves:
            return at
        standing = item[1]
    return None


def is_like_a_move(thing):
    return is_tuple_of(thing, 2) and isinstance(thing[0], str) and is_states(thing[1])


def end_of_moves(works, run):
    """The end of what surely is a run."""
    return run[-1][1] if run else start_of(works)
