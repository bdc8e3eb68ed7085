"""Searches: all that can be met step by step from some places."""

from watchedworks.errors import TooMany


def met_from(begun, stepping, limit, spent=0):
    """The places that are met from those that are begun with, which are keys of a dict; fewer steps come first.

    The function stepping tells the steps from a place as pairs: the place behind the step, and what is told of it. The
    dict that is returned has for each place the one ahead of it, and what is told of the step that led here first.
    """
    met = {place: begun[place] for place in begun}
    layer = list(begun)
    while layer:
        found = []
        for place in layer:
            for behind, told in stepping(place):
                if behind not in met:
                    met[behind] = (place, told)
                    found.append(behind)
            if len(met) + spent > limit:
                raise TooMany(limit)
        layer = found
    return met


def steps_to(met, place):
    """What is told of the steps that led to a met place from where they began, whose value is None, in their order."""
    found = []
    while met[place] is not None:
        place, told = met[place]
        found.append(told)
    return found[::-1]
