"""Where the hands of a works can come together."""

from watchedworks.errors import TooMany

MOST_STANDINGS = 60


def reached_moves(hands, words):
    """A dict from each reached standing to its moves; the search ends as soon as there are too many."""
    moves = {}
    waiting = [tuple([hand.start for hand in hands])]
    while waiting:
        standing = waiting.pop()
        moves[standing] = moves_at(hands, words, standing)
        new = new_standings(moves[standing], moves, waiting)
        waiting.extend(new)
        if len(moves) + len(waiting) > MOST_STANDINGS:
            raise TooMany(MOST_STANDINGS)
    return moves


def met_standings(start, moves):
    """The ascending list of the standings that runs from the start meet, by a dict from standings to moves."""
    met = {}
    waiting = [start]
    while waiting:
        standing = waiting.pop()
        met[standing] = True
        new = new_standings(moves[standing], met, waiting)
        waiting.extend(new)
    return sorted(met)


def ways_from(start, moves):
    """For each standing that runs from the start meet one with the fewest moves, by a dict from standings to moves."""
    ways = {start: ()}
    layer = [start]
    while layer:
        behind = []
        for standing in layer:
            for move in moves[standing]:
                if move[1] not in ways:
                    ways[move[1]] = ways[standing] + (move,)
                    behind.append(move[1])
        layer = behind
    return ways


def new_standings(moves, met, waiting):
    """The standings to which the moves lead that are neither met nor waiting, each once."""
    return sorted({behind for _, behind in moves if behind not in met and behind not in waiting})


def moves_at(hands, words, standing):
    """The ascending list of the moves at a standing."""
    return sorted([(word, behind) for word in words for behind in standings_behind(hands, standing, word)])


def standings_behind(hands, standing, word):
    """The standings to which a word leads: each hand that has it makes a step, each other one stays."""
    behind = [()]
    for hand, state in zip(hands, standing):
        ends = ends_of(hand, state, word)
        behind = [states + (end,) for states in behind for end in ends]
    return behind


def ends_of(hand, state, word):
    if word not in hand.words:
        return [state]
    return [end for begin, told, end in hand.steps if begin == state and told == word]
