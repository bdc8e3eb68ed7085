"""What a reader, who is a post or sees with both posts, sees of words and of runs."""

from watchedworks.errors import BadPost, BadSights
from watchedworks.kinds import is_post

BOTH = "both"


def is_reader(thing):
    return is_post(thing) or isinstance(thing, str) and thing == BOTH


def check_reader(reader):
    if not is_reader(reader):
        raise BadPost(reader)


def check_sights(sights):
    if not isinstance(sights, tuple):
        raise BadSights(sights)


def word_sights(works, box, chosen, reader):
    """A dict from the words of the works to what the reader sees of them by the set, None for nothing."""
    if reader == BOTH:
        return {word: box.joint(chosen, word) for word in works.words}
    return {word: box.sight(chosen, reader, word) for word in works.words}


def sights_of_moves(sights, moves):
    """The sights of the words of a row of moves, without None, by a dict from words to sights."""
    return tuple([sights[word] for word, _ in moves if sights[word] is not None])


def are_alike(sights, one, other):
    """Whether two runs are alike for who sees these sights."""
    return sights_of_moves(sights, one) == sights_of_moves(sights, other)
