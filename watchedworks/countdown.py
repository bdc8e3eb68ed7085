"""Countdowns: how long a fault can stay unknown, from each triple with a faulty run."""

from watchedworks.reach import met_standings
from watchedworks.triples import own_steps_from

# More than any number of own steps that do not go round: these are fewer than the triples that may be met.
ENDLESS = 1000000


def countdown(net, faulty):
    """A dict from the met faulty triples to the most own steps that can be made from there, ENDLESS if without end.

    Where posts' steps lead to and fro between triples, these have one number; so groups of such triples are numbered.
    """
    groups = groups_of(net, faulty)
    ahead = {group: [] for group in groups.values()}
    left = {group: 0 for group in ahead}
    for group, behind, cost in links_of(net, groups):
        ahead[behind].append((group, cost))
        left[group] += 1
    numbers = {group: 0 for group in ahead}
    waiting = [group for group in left if left[group] == 0]
    while waiting:
        behind = waiting.pop()
        for group, cost in ahead[behind]:
            numbers[group] = max(numbers[group], numbers[behind] + cost)
            left[group] -= 1
            if left[group] == 0:
                waiting.append(group)
    # A group that still waits lies on a way round, or ahead of one.
    return {triple: ENDLESS if left[groups[triple]] else numbers[groups[triple]] for triple in faulty}


def groups_of(net, faulty):
    """For each triple the least one, in the order of its standings, to which posts' steps lead to and fro."""
    least = [least_mates(net, post) for post in (0, 1)]
    return {(standing, one, other): (standing, least[0][one], least[1][other]) for standing, one, other in faulty}


def least_mates(net, post):
    """For each standing of a post the least one to which, and back from which, moves lead that it does not see."""
    moves = {at: list(net.unseen(post, at).values()) for at in net.standings_of(post)}
    reach = {at: met_standings(at, moves) for at in moves}
    return {at: min([mate for mate in reach[at] if at in reach[mate]]) for at in reach}


def links_of(net, groups):
    """How steps lead between groups: tuples of a group, the group behind it, and 1 for an own step, 0 for a post's."""
    links = {}
    for triple in groups:
        for behind, _ in own_steps_from(net, triple):
            links[(groups[triple], groups[behind], 1)] = True
        for behind, _ in net.post_steps(triple):
            if groups[behind] != groups[triple]:
                links[(groups[triple], groups[behind], 0)] = True
    return list(links)
