"""Keeping: whether the locks of a set can keep the works from its bars."""

from watchedworks.keptworks import barred_words_of, kept_words_of
from watchedworks.kinds import is_tuple_of
from watchedworks.runs import end_of_moves, is_kept_run
from watchedworks.searches import steps_to
from watchedworks.sets import check_chosen, posts_with_locks
from watchedworks.sights import are_alike, word_sights
from watchedworks.triples import Net, met_plain, runs_by, steps_from


def keeps(works, box, chosen):
    return conflict(works, box, chosen) is None


def conflict(works, box, chosen):
    check_chosen(box, chosen)
    met = met_plain(keeping_net(works, box, chosen))
    threats = Threats(works, box, chosen)
    for triple in met:
        word = threats.word_at(triple)
        if word is not None:
            run, first, second = runs_by(steps_to(met, triple))
            others = (first if threats.can_hold(0, word) else None, second if threats.can_hold(1, word) else None)
            return (word, run, others)
    return None


def keep_paper(works, box, chosen):
    check_chosen(box, chosen)
    met = met_plain(keeping_net(works, box, chosen))
    threats = Threats(works, box, chosen)
    return sorted(met) if all([threats.word_at(triple) is None for triple in met]) else None


def is_conflict(works, box, chosen, thing):
    check_chosen(box, chosen)
    if not is_tuple_of(thing, 3):
        return False
    word, run, others = thing
    if not isinstance(word, str) or not is_kept_run(works, run) or not is_tuple_of(others, 2):
        return False
    threats = Threats(works, box, chosen)
    if not threats.leads_to_a_bar(end_of_moves(works, run), word):
        return False
    return all([
        is_let_by(works, word_sights(works, box, chosen, post), word, run, others[post])
        if threats.can_hold(post, word) else others[post] is None
        for post in (0, 1)
    ])


def is_let_by(works, sights, word, run, thing):
    """Whether a thing is a kept run, alike with the run by these sights, from whose end the word leads on."""
    if not is_kept_run(works, thing) or not are_alike(sights, run, thing):
        return False
    return word in kept_words_of(works)[end_of_moves(works, thing)]


def is_keep_paper(works, box, chosen, thing):
    check_chosen(box, chosen)
    net = keeping_net(works, box, chosen)
    if not isinstance(thing, list) or not all([net.is_triple(triple) for triple in thing]):
        return False
    threats = Threats(works, box, chosen)
    triples = {triple: threats.word_at(triple) for triple in thing}
    return net.first in triples and all([
        triples[triple] is None and all([behind in triples for behind, _ in steps_from(net, triple, False)])
        for triple in triples
    ])


def keeping_net(works, box, chosen):
    return Net(works, box, chosen, posts_with_locks(box, chosen), [])


class Threats:
    """The words that lead to bars, and who can hold them by a set."""

    def __init__(self, works, box, chosen):
        self._barred_words = barred_words_of(works)
        self._kept_words = kept_words_of(works)
        self._holds = tuple([box.holds(chosen, post) for post in (0, 1)])

    def can_hold(self, post, word):
        return word in self._holds[post]

    def leads_to_a_bar(self, standing, word):
        return word in self._barred_words[standing]

    def word_at(self, triple):
        """The least word that makes a conflict of the runs of a triple, None if there is none."""
        for word in self._barred_words[triple[0]]:
            if all([self._is_let(post, word, triple[post + 1]) for post in (0, 1)]):
                return word
        return None

    def _is_let(self, post, word, standing):
        """Whether a post that holds this standing possible cannot hold the word, or must not."""
        return word not in self._holds[post] or word in self._kept_words[standing]
