"""Texts: a works and a box as lines of text."""

from watchedworks.drafts import Draft
from watchedworks.errors import BadText
from watchedworks.instruments import Sensor

MOST_LINES = 200


def written(works, box):
    lines = hand_lines(works) + bar_lines(works) + fault_lines(works) + secret_lines(works) + diligent_lines(works)
    return "".join([line + "\n" for line in lines + instrument_lines(box)])


def read_text(text):
    if not isinstance(text, str) or text != "" and not text.endswith("\n"):
        raise BadText(-1)
    lines = text.split("\n")[:-1]
    if len(lines) > MOST_LINES:
        raise BadText(0)
    if not lines:
        raise BadText(1)
    draft = Draft()
    for number, line in enumerate(lines, 1):
        if not draft.takes(line):
            raise BadText(number)
    return draft.made()


def hand_lines(works):
    lines = []
    for hand in works.hands:
        lines.append(f"hand {hand.start}")
        lines.extend([f"step {begin} {word} {end}" for begin, word, end in hand.steps])
    return lines


def bar_lines(works):
    return ["bar " + pattern_written(pattern) for pattern in works.bar_patterns()]


def fault_lines(works):
    return [f"fault {word} {works.fault_of(word)}" for word in works.words if works.fault_of(word) is not None]


def secret_lines(works):
    return [
        f"secret {name} " + pattern_written(pattern)
        for name in works.secrets for pattern in works.secret_patterns(name)
    ]


def diligent_lines(works):
    return ["diligent " + " ".join([str(at) for at in works.diligent])] if works.diligent else []


def instrument_lines(box):
    return [instrument_written(box[name]) for name in box.names()]


def instrument_written(one):
    if isinstance(one, Sensor):
        kind, items = "sensor", [f"{word}={sight}" for word, sight in one.sights.items()]
    else:
        kind, items = "lock", one.words
    return " ".join([kind, one.name, str(one.post), str(one.cost)] + items)


def pattern_written(pattern):
    """A pattern, whose indexes ascend."""
    return " ".join([f"{at}={state}" for at, state in pattern.items()])
