"""Guards: what the posts do with the instruments of a set."""

from watchedworks.estimates import Reading
from watchedworks.instruments import check_post
from watchedworks.keptworks import kept_words_of
from watchedworks.runs import check_run
from watchedworks.sets import check_chosen
from watchedworks.sights import check_sights, word_sights


class Guard:
    """Posts that hold each word that they can, as soon as they know that no kept run goes on with it."""

    def __init__(self, works, box, chosen):
        check_chosen(box, chosen)
        self._guarded = works
        self._readings = tuple([Reading(works, word_sights(works, box, chosen, post)) for post in (0, 1)])
        self._holds = tuple([box.holds(chosen, post) for post in (0, 1)])
        self._kept_words = kept_words_of(works)

    def estimate(self, post, sights):
        check_post(post)
        check_sights(sights)
        return self._readings[post].behind_all(sights)

    def held(self, post, sights):
        standings = self.estimate(post, sights)
        return [word for word in self._holds[post] if self._is_needless(word, standings)]

    def lets(self, run):
        return self.stopped(run) is None

    def stopped(self, run):
        check_run(self._guarded, run)
        estimates = [reading.beginning() for reading in self._readings]
        for at, (word, _) in enumerate(run):
            if any([word in self._holds[post] and self._is_needless(word, estimates[post]) for post in (0, 1)]):
                return at
            estimates = [self._readings[post].behind_word(estimates[post], word) for post in (0, 1)]
        return None

    def _is_needless(self, word, standings):
        """Whether the word leads on by a kept move from none of these standings."""
        return not any([word in self._kept_words[standing] for standing in standings])
