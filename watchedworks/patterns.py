"""Patterns: what bars and secrets say of standings.

A works keeps a pattern as the ascending tuple of its pairs: nobody can change it, and equal patterns are equal tuples.
"""

from watchedworks.kinds import is_index, is_state


def is_pattern(thing, many):
    """Whether a thing is a dict from indexes of so many hands to states, with at least one key."""
    if not isinstance(thing, dict) or len(thing) == 0:
        return False
    return all([is_index(at, many) and is_state(state) for at, state in thing.items()])


def pairs_of(pattern):
    return tuple(sorted(pattern.items()))


def all_pairs_of(patterns):
    return tuple([pairs_of(pattern) for pattern in patterns])


def patterns_of(rows):
    """The dicts that are kept as these tuples of pairs."""
    return [dict(pairs) for pairs in rows]


def agrees(standing, pairs):
    return all([standing[at] == state for at, state in pairs])


def agrees_with_one(standing, rows):
    return any([agrees(standing, pairs) for pairs in rows])


def moved(rows, by):
    """The patterns for hands whose indexes are greater by so many."""
    return tuple([tuple([(at + by, state) for at, state in pairs]) for pairs in rows])


def without_repeats(rows):
    """The patterns, each once, where it occurs first."""
    return tuple([pairs for at, pairs in enumerate(rows) if pairs not in rows[:at]])
