"""The tests' own workings of the document, plain and slow, over sets of standings and over all runs up to a length.

They take from the package only what a works and an instrument tell of themselves.
"""

from watchedworks.instruments import Lock, Sensor


def start_of(works):
    return tuple(hand.start for hand in works.hands)


def end(works, run):
    return run[-1][1] if run else start_of(works)


def runs_up_to(works, most, moves_at):
    """All runs of at most so many moves, by what tells the moves at a standing; shorter ones first."""
    runs = layer = [()]
    for _ in range(most):
        layer = [run + (move,) for run in layer for move in moves_at(end(works, run))]
        runs = runs + layer
    return runs


def instruments_of(box, chosen, post, kind):
    return [box[name] for name in sorted(chosen) if isinstance(box[name], kind) and box[name].post == post]


def sight(box, chosen, post, word):
    if post == "both":
        pair = sight(box, chosen, 0, word), sight(box, chosen, 1, word)
        return pair if pair != (None, None) else None
    shown = tuple(one.sights[word] if word in one.words else None for one in instruments_of(box, chosen, post, Sensor))
    return shown if set(shown) - {None} else None


def can_hold(box, chosen, post, word):
    return any(word in lock.words for lock in instruments_of(box, chosen, post, Lock))


def has(box, chosen, post, kind):
    return bool(instruments_of(box, chosen, post, kind))


def sights_of(box, chosen, post, run):
    return tuple(shown for shown in (sight(box, chosen, post, word) for word, _ in run) if shown is not None)


def words_of_fault(works, fault):
    return {word for word in works.words if works.fault_of(word) == fault}


def unseen(works, box, chosen, post, standings, without=()):
    """The standings to which these become by kept moves that a post does not see, but for moves with some words."""
    known = set(standings)
    while True:
        more = {
            behind for standing in known for word, behind in works.kept_moves(standing)
            if word not in without and sight(box, chosen, post, word) is None
        } - known
        if not more:
            return frozenset(known)
        known |= more


def behind_sight(works, box, chosen, post, standings, shown, without=()):
    return unseen(works, box, chosen, post, {
        behind for standing in standings for word, behind in works.kept_moves(standing)
        if word not in without and sight(box, chosen, post, word) == shown
    }, without)


def behind_word(works, box, chosen, post, standings, word, without=()):
    shown = sight(box, chosen, post, word)
    return standings if shown is None else behind_sight(works, box, chosen, post, standings, shown, without)


def estimate(works, box, chosen, post, sights, without=()):
    """Where kept runs (without some words) end that show a post just these sights."""
    standings = unseen(works, box, chosen, post, {start_of(works)}, without)
    for shown in sights:
        standings = behind_sight(works, box, chosen, post, standings, shown, without)
    return standings


def met_triples(works, box, chosen, counting, fault_words=()):
    """The met triples as pairs of a triple and whether the run is faulty, step by step as the document tells them."""
    start = start_of(works)
    first = ((start, *(start if counts else None for counts in counting)), False)
    met, waiting = {first}, [first]
    while waiting:
        found = steps_behind(works, box, chosen, counting, fault_words, waiting.pop())
        new = {(triple, faulty) for triple, faulty, _ in found} - met
        met |= new
        waiting.extend(new)
    return met


def steps_behind(works, box, chosen, counting, fault_words, place):
    """The steps from a triple with its colour: tuples of the triple behind, its colour, and "own" or "post"."""
    (standing, *others), faulty = place
    found = []
    for word, behind in works.kept_moves(standing):
        answers = []
        for post in (0, 1):
            shown = sight(box, chosen, post, word)
            if not counting[post] or shown is None:
                answers.append([others[post]])
            else:
                answers.append([
                    there for other, there in works.kept_moves(others[post])
                    if other not in fault_words and sight(box, chosen, post, other) == shown
                ])
        found += [
            ((behind, one, other), faulty or word in fault_words, "own") for one in answers[0] for other in answers[1]
        ]
    for post in (0, 1):
        for word, there in works.kept_moves(others[post]) if counting[post] else ():
            if word not in fault_words and sight(box, chosen, post, word) is None:
                changed = [standing, *others]
                changed[post + 1] = there
                found.append((tuple(changed), faulty, "post"))
    return found


def none_first(triple):
    """A key by which triples ascend with None as less than every standing."""
    return tuple((one is not None, one) for one in triple)


def shown_up_to(works, box, chosen, reader, most, most_sights):
    """Where kept runs of at most so many moves, that show no more sights, end: pairs of an end and the sights."""
    shown = {word: sight(box, chosen, reader, word) for word in works.words}
    pairs = layer = {(start_of(works), ())}
    for _ in range(most):
        longer = {
            (behind, sights if shown[word] is None else (*sights, shown[word]))
            for standing, sights in layer for word, behind in works.kept_moves(standing)
        }
        layer = {pair for pair in longer if len(pair[1]) <= most_sights} - pairs
        pairs = pairs | layer
    return pairs


def all_estimates(works, box, chosen, reader):
    """The estimates behind kept runs, as frozensets."""
    shown = {sight(box, chosen, reader, word) for word in works.words} - {None}
    met, waiting = set(), [unseen(works, box, chosen, reader, {start_of(works)})]
    while waiting:
        standings = waiting.pop()
        if standings and standings not in met:
            met.add(standings)
            waiting += [behind_sight(works, box, chosen, reader, standings, one) for one in shown]
    return met
