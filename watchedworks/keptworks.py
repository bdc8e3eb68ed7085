"""What is often asked of the kept works: tables over its standings."""


def start_of(works):
    return tuple([hand.start for hand in works.hands])


def kept_moves_of(works):
    """A dict from the kept standings to their kept moves."""
    return {standing: works.kept_moves(standing) for standing in works.kept()}


def kept_words_of(works):
    """A dict from the kept standings to the words that lead on from there by a kept move."""
    return {standing: [word for word, _ in works.kept_moves(standing)] for standing in works.kept()}


def barred_words_of(works):
    """A dict from the kept standings to the words, ascending, that lead from there to a barred standing."""
    return {
        standing: sorted({word for word, behind in works.moves(standing) if works.is_barred(behind)})
        for standing in works.kept()
    }
