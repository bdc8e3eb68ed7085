"""Surely: whether the diligent hands bring what is wanted behind what is seen."""

from watchedworks.errors import BadWords
from watchedworks.kinds import is_integer, is_name, is_row, is_tuple_of
from watchedworks.questions import Question, Rounds, is_open
from watchedworks.runs import end_of_moves, is_kept_run
from watchedworks.searches import steps_to


def surely(works, *, seen=(), wanted):
    return escape(works, seen=seen, wanted=wanted) is None


def sure_paper(works, *, seen=(), wanted):
    check_words(seen, wanted)
    question = Question(works, seen, wanted)
    met = sorted(question.met())
    open_ones = [marked for marked in met if is_open(marked)]
    rounds = Rounds(question, [standing for standing, _ in open_ones])
    ranks = {marked: (rounds.rank(marked[0]), rounds.idle_hand(marked[0])) for marked in open_ones}
    if any([hand is None for _, hand in ranks.values()]):
        return None
    return ([marked for marked in met if not is_open(marked)], ranks)


def escape(works, *, seen=(), wanted):
    check_words(seen, wanted)
    question = Question(works, seen, wanted)
    met = question.met()
    open_ones = [marked for marked in met if is_open(marked)]
    rounds = Rounds(question, [standing for standing, _ in open_ones])
    for marked in open_ones:
        standing = marked[0]
        if not question.able_hands(standing):
            return (tuple(steps_to(met, marked)), ())
        if rounds.idle_hand(standing) is None:
            return (tuple(steps_to(met, marked)), rounds.fair_loop(standing))
    return None


def is_sure_paper(works, thing, *, seen=(), wanted):
    check_words(seen, wanted)
    question = Question(works, seen, wanted)
    if not is_like_a_sure_paper(question, thing):
        return False
    rows, ranks = thing
    ahead = {marked: True for marked in rows}
    if question.first not in ahead and question.first not in ranks:
        return False
    return all([
        behind in ahead or behind in ranks for marked in ahead for behind, _ in question.steps_on(marked)
    ]) and all([is_ranked_right(question, ranks, marked) for marked in ranks])


def is_escape(works, thing, *, seen=(), wanted):
    check_words(seen, wanted)
    if not is_tuple_of(thing, 2):
        return False
    stem, loop = thing
    if not is_kept_run(works, stem) or not isinstance(loop, tuple) or not is_kept_run(works, stem + loop):
        return False
    done = [word for word, _ in stem]
    if not all([word in done for word in seen]) or any([word in wanted for word, _ in stem + loop]):
        return False
    question = Question(works, seen, wanted)
    end = end_of_moves(works, stem)
    if not loop:
        return not question.able_hands(end)
    return end_of_moves(works, loop) == end and is_fair(question, loop)


def check_words(seen, wanted):
    for words in (seen, wanted):
        if not is_row(words) or not all([is_name(word) for word in words]):
            raise BadWords(words)


def is_like_a_sure_paper(question, thing):
    """Whether a thing is a pair as a sure paper: marked standings that are not open, and open ones with their ranks."""
    if not is_tuple_of(thing, 2):
        return False
    rows, ranks = thing
    if not isinstance(rows, list) or not isinstance(ranks, dict):
        return False
    return all([question.is_marked(marked) and not is_open(marked) for marked in rows]) and all([
        question.is_marked(marked) and is_open(marked) and is_rank(question, marked[0], rank)
        for marked, rank in ranks.items()
    ])


def is_rank(question, standing, thing):
    """Whether a thing is a pair of an integer of at least 0 and a diligent hand that is able at the standing."""
    if not is_tuple_of(thing, 2) or not is_integer(thing[0]) or not is_integer(thing[1]):
        return False
    return thing[0] >= 0 and thing[1] in question.able_hands(standing)


def is_ranked_right(question, ranks, marked):
    """Whether each move that leads on from an open marked standing leads where a sure paper has to have it."""
    number, hand = ranks[marked]
    for behind, move in question.steps_on(marked):
        if behind not in ranks or ranks[behind][0] > number:
            return False
        if ranks[behind][0] == number and (ranks[behind][1] != hand or question.takes_part(hand, move[0])):
            return False
    return True


def is_fair(question, loop):
    """Whether each diligent hand takes part in a move of the loop, or is not able where one of its moves begins."""
    # The loop ends where it begins: so its moves begin just where they end.
    return all([
        any([question.takes_part(hand, word) or hand not in question.able_hands(behind) for word, behind in loop])
        for hand in question.diligent_hands()
    ])
