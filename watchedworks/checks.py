"""The checks of what a works is made with, joined with, renamed by and asked for."""

from watchedworks.errors import BadBars, BadDiligent, BadFaults, BadHands, BadSecrets, BadStanding, BadWord
from watchedworks.hands import Hand
from watchedworks.kinds import is_index, is_name, is_row, is_row_of, is_states
from watchedworks.patterns import agrees, is_pattern, pairs_of

MOST_HANDS = 3
MOST_BARS = 6
MOST_FAULTS = 2
MOST_SECRETS = 3
MOST_PATTERNS_OF_A_SECRET = 4


def check_hands(hands):
    if not is_row_of(hands, 1, MOST_HANDS):
        raise BadHands(-1)
    for at, hand in enumerate(hands):
        if not isinstance(hand, Hand):
            raise BadHands(at)


def check_bars(bars, start):
    if not is_row_of(bars, 0, MOST_BARS):
        raise BadBars(-1)
    for at, bar in enumerate(bars):
        if not is_pattern(bar, len(start)) or agrees(start, pairs_of(bar)):
            raise BadBars(at)


def check_faults(faults, words):
    if faults is None:
        return
    if not isinstance(faults, dict):
        raise BadFaults(faults)
    wrong = wrong_words(faults, words)
    if wrong:
        raise BadFaults(wrong[0])
    if len(names_of_faults(faults)) > MOST_FAULTS:
        raise BadFaults(-1)


def check_secrets(secrets, many):
    if secrets is None:
        return
    if not isinstance(secrets, dict) or len(secrets) > MOST_SECRETS:
        raise BadSecrets(secrets)
    for name in ascending_keys(secrets):
        if not is_name(name) or not is_row_of_patterns(secrets[name], many):
            raise BadSecrets(name)


def check_diligent(diligent, many):
    if not is_row(diligent):
        raise BadDiligent(diligent)
    for at, item in enumerate(diligent):
        if not is_index(item, many) or item in diligent[:at]:
            raise BadDiligent(item)


def check_standing(standing, reached):
    """Raise `BadStanding` if the standing is not one of the reached ones, the keys of a dict."""
    if not is_states(standing) or standing not in reached:
        raise BadStanding(standing)


def check_nothing_shared(one, other):
    """Raise the errors for a word or the name of a secret that two works both have."""
    words = other.words
    shared_words = [word for word in one.words if word in words]
    if shared_words:
        raise BadWord(shared_words[0])
    names = other.secrets
    shared_names = [name for name in one.secrets if name in names]
    if shared_names:
        raise BadSecrets(shared_names[0])


def check_joined_limits(bars, faults, secrets):
    if len(bars) > MOST_BARS:
        raise BadBars(-1)
    if len(names_of_faults(faults)) > MOST_FAULTS:
        raise BadFaults(-1)
    if len(secrets) > MOST_SECRETS:
        raise BadSecrets(-1)


def check_new_words(names, words):
    """Raise `BadWord` if these new names of words are not a dict, or not as they must be."""
    if not isinstance(names, dict):
        raise BadWord(names)
    wrong = wrong_words(names, words)
    if wrong:
        raise BadWord(wrong[0])
    new_words = sorted([names.get(word, word) for word in words])
    twice = [word for at, word in enumerate(new_words) if word in new_words[:at]]
    if twice:
        raise BadWord(twice[0])


def names_of_faults(faults):
    return sorted(set(list(faults.values())))


def wrong_words(table, words):
    """The ascending keys of a dict that are none of these words, or whose value is not a name."""
    return [
        key for key in ascending_keys(table)
        if not is_name(key) or key not in words or not is_name(table[key])
    ]


def ascending_keys(table):
    """The keys of a dict; those that are no strings, which have no order, stand ahead of all strings."""
    others = [key for key in table if not isinstance(key, str)]
    return others + sorted([key for key in table if isinstance(key, str)])


def is_row_of_patterns(thing, many):
    if not is_row_of(thing, 1, MOST_PATTERNS_OF_A_SECRET):
        return False
    return all([is_pattern(pattern, many) for pattern in thing])
