"""What telling and foretelling both ask: checks, the words of a fault, and runs that have none of them."""

from watchedworks.errors import BadCount, BadFault
from watchedworks.kinds import is_index, is_name
from watchedworks.runs import is_kept_run
from watchedworks.sets import check_chosen, posts_with_sensors
from watchedworks.sights import are_alike, word_sights
from watchedworks.triples import Net

MOST_COUNT = 1000


def check_fault(works, fault):
    if not is_name(fault) or fault not in works.faults:
        raise BadFault(fault)


def check_count(count):
    if not is_count(count):
        raise BadCount(count)


def is_count(thing):
    """Whether a thing is a number of moves that can be asked for."""
    return is_index(thing, MOST_COUNT + 1)


def check_question(works, box, chosen, fault, count):
    check_chosen(box, chosen)
    check_fault(works, fault)
    check_count(count)


def fault_words(works, fault):
    return [word for word in works.words if works.fault_of(word) == fault]


def fault_net(works, box, chosen, fault):
    return Net(works, box, chosen, posts_with_sensors(box, chosen), fault_words(works, fault))


def first_of_words(words, run):
    """The index of the first move of a run with one of the words, None if there is none."""
    for at, (word, _) in enumerate(run):
        if word in words:
            return at
    return None


def are_clean_others(works, box, chosen, fault, run, others):
    """Whether a pair has, for each post with a sensor, a kept run without the fault that is alike with the run for it.

    For each other post it must have None.
    """
    counting = posts_with_sensors(box, chosen)
    words = fault_words(works, fault)
    return all([
        is_clean_and_alike(works, words, word_sights(works, box, chosen, post), run, others[post]) if counting[post]
        else others[post] is None
        for post in (0, 1)
    ])


def is_clean_and_alike(works, words, sights, run, thing):
    if not is_kept_run(works, thing) or first_of_words(words, thing) is not None:
        return False
    return are_alike(sights, run, thing)
