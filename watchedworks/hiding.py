"""Hiding: whether who reads the sensors of a set can come to know a secret."""

from watchedworks.errors import BadFlag, BadSecret
from watchedworks.estimates import Reading
from watchedworks.kinds import is_flag, is_name, is_states, is_tuple_of
from watchedworks.runs import is_kept_run
from watchedworks.searches import met_from, steps_to
from watchedworks.sets import check_chosen
from watchedworks.sights import BOTH, check_reader, check_sights, is_reader, sights_of_moves, word_sights

MOST_ESTIMATES = 500


def hidden(works, box, chosen, secret, *, joint=False):
    return betrayal(works, box, chosen, secret, joint=joint) is None


def betrayal(works, box, chosen, secret, *, joint=False):
    check_asked(works, box, chosen, secret, joint)
    readers = readers_asked(joint)
    readings = [reading_of(works, box, chosen, reader) for reader in readers]
    # All readers are searched ahead of any answer: one with too many estimates counts even if another betrays at once.
    found = [met_estimates(reading) for reading in readings]
    for reader, reading, met in zip(readers, readings, found):
        for estimate in met:
            if is_betrayed(works, secret, estimate):
                return (reader, reading.run_behind(steps_to(met, estimate)))
    return None


def hide_paper(works, box, chosen, secret, *, joint=False):
    check_asked(works, box, chosen, secret, joint)
    papers = [estimates(works, box, chosen, reader) for reader in readers_asked(joint)]
    leaks = [estimate for paper in papers for estimate in paper if is_betrayed(works, secret, estimate)]
    return None if leaks else papers


def is_betrayal(works, box, chosen, secret, thing, *, joint=False):
    check_asked(works, box, chosen, secret, joint)
    if not is_tuple_of(thing, 2):
        return False
    reader, run = thing
    if not is_reader(reader) or reader not in readers_asked(joint) or not is_kept_run(works, run):
        return False
    sights = sights_of_moves(word_sights(works, box, chosen, reader), run)
    return is_betrayed(works, secret, reading_of(works, box, chosen, reader).behind_all(sights))


def is_hide_paper(works, box, chosen, secret, thing, *, joint=False):
    check_asked(works, box, chosen, secret, joint)
    readers = readers_asked(joint)
    if not isinstance(thing, list) or len(thing) != len(readers):
        return False
    return all([
        is_paper_for(works, reading_of(works, box, chosen, reader), secret, paper)
        for reader, paper in zip(readers, thing)
    ])


def estimates(works, box, chosen, reader):
    check_chosen(box, chosen)
    check_reader(reader)
    return sorted(met_estimates(reading_of(works, box, chosen, reader)))


def estimate_behind(works, box, chosen, reader, sights):
    check_chosen(box, chosen)
    check_reader(reader)
    check_sights(sights)
    return tuple(reading_of(works, box, chosen, reader).behind_all(sights))


def check_asked(works, box, chosen, secret, joint):
    check_chosen(box, chosen)
    if not is_name(secret) or secret not in works.secrets:
        raise BadSecret(secret)
    if not is_flag(joint):
        raise BadFlag(joint)


def readers_asked(joint):
    return [BOTH] if joint else [0, 1]


def reading_of(works, box, chosen, reader):
    return Reading(works, word_sights(works, box, chosen, reader))


def met_estimates(reading):
    """The estimates behind kept runs, those behind fewer sights first, each with the one ahead of it and the sight."""
    return met_from({tuple(reading.beginning()): None}, lambda estimate: sights_from(reading, estimate), MOST_ESTIMATES)


def sights_from(reading, estimate):
    """The sights that may come next, each with the estimate that follows ahead of it."""
    return [(tuple(reading.behind(estimate, sight)), sight) for sight in reading.next_sights(estimate)]


def is_betrayed(works, secret, estimate):
    """Whether all standings of an estimate, which has some, are secret."""
    return all([works.is_secret(secret, standing) for standing in estimate])


def is_paper_for(works, reading, secret, thing):
    """Whether a thing is a hide paper for who reads so."""
    if not isinstance(thing, list):
        return False
    kept = {standing: True for standing in works.kept()}
    if not all([is_like_an_estimate(kept, one) and not is_betrayed(works, secret, one) for one in thing]):
        return False
    told = {estimate: True for estimate in thing}
    return tuple(reading.beginning()) in told and all([
        behind in told for estimate in told for behind, _ in sights_from(reading, estimate)
    ])


def is_like_an_estimate(kept, thing):
    """Whether a thing is an ascending tuple of different kept standings, with at least one."""
    if not isinstance(thing, tuple) or not thing:
        return False
    if not all([is_states(standing) and standing in kept for standing in thing]):
        return False
    return all([thing[at] < thing[at + 1] for at in range(len(thing) - 1)])
