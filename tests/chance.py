"""Works and boxes made by chance, the same ones in each run of the tests."""

from watchedworks.boxes import Box
from watchedworks.errors import WorksError
from watchedworks.hands import Hand
from watchedworks.instruments import Lock, Sensor
from watchedworks.wishes import fulfils
from watchedworks.works import Works

WORDS = [["abcd"], ["abcde"], ["abc", "cde"], ["abx", "cdx"], ["abc", "de"], ["ab", "cx", "dx"], ["ax", "bxy", "cy"]]


def some_hand(chance, words):
    many = chance.randrange(2, 5 if len(words) > 3 else 4)
    steps = []
    for state in range(many):
        for _ in range(chance.choice([1, 1, 2, 2, 3])):
            step = (state, chance.choice(words), chance.randrange(many))
            if step not in steps:
                steps.append(step)
    return Hand(0, steps)


def some_parts(chance, bars=2):
    """What a works is made with; it has at most 13 kept standings, so that there are no more than 3000 triples."""
    while True:
        hands = [some_hand(chance, words) for words in chance.choice(WORDS)]
        words = sorted({word for hand in hands for word in hand.words})
        patterns = [{chance.randrange(len(hands)): chance.randrange(1, 4)} for _ in range(chance.randrange(bars + 1))]
        marked = chance.sample(words, min(len(words), chance.choice([1, 1, 2])))
        parts = {"hands": hands, "bars": patterns, "faults": {word: chance.choice("ffg") for word in marked}}
        try:
            works = Works(**parts)
        except WorksError:
            continue
        if 1 < len(works.kept()) < 14:
            return parts


def some_works(chance, bars=2):
    return Works(**some_parts(chance, bars))


def some_whole_parts(chance, bars=1):
    """The same with secrets and diligent hands."""
    parts = some_parts(chance, bars)
    many = len(parts["hands"])
    return {
        **parts,
        "secrets": {name: some_patterns(chance, many) for name in chance.sample(["hot", "low", "wet"], 2)},
        "diligent": chance.sample(range(many), chance.randrange(many + 1)),
    }


def some_patterns(chance, many):
    """Patterns of a secret, for so many hands."""
    return [
        {at: chance.randrange(3) for at in chance.sample(range(many), chance.choice([1, 1, many]))}
        for _ in range(chance.choice([1, 1, 2]))
    ]


def some_worn_parts(chance):
    """What a works is made with whose first hand, behind a fault, goes on for a while as it did ahead of it."""
    many = chance.randrange(2, 5)
    words = [chance.choice("abc") for _ in range(many)]
    steps = [(state, words[state], (state + 1) % many) for state in range(many)]
    begun, more = chance.randrange(many), chance.randrange(1, 5)
    steps.append((begun, "f", 10))
    steps += [(10 + at, words[(begun + at) % many], 11 + at) for at in range(more)]
    steps.append((10 + more, chance.choice("abcd"), chance.choice([10 + more, 20])))
    if chance.random() < 0.3:
        steps.append((10, "g", chance.choice([10, 11])))
    hands = [Hand(0, steps)]
    if chance.random() < 0.4:
        beside = [[(0, "x", 1), (1, "x", 0)], [(0, "x", 1), (1, words[0], 0)], [(0, "a", 0)]]
        hands.append(Hand(0, chance.choice(beside)))
    faults = {word: "f" for word in "fg" if any(word in hand.words for hand in hands)}
    return {"hands": hands, "bars": [], "faults": faults}


def turned(chance, parts):
    """An equal works, with all in another order."""
    return Works(
        [Hand(hand.start, chance.sample(hand.steps, len(hand.steps))) for hand in parts["hands"]],
        bars=tuple(chance.sample(parts["bars"] * 2, 2 * len(parts["bars"]))),
        faults=dict(chance.sample(sorted(parts["faults"].items()), len(parts["faults"]))),
        secrets={
            name: chance.sample(patterns, len(patterns))
            for name, patterns in reversed(parts.get("secrets", {}).items())
        },
        diligent=chance.sample(parts.get("diligent", []), len(parts.get("diligent", []))),
    )


def some_box(chance, works, most=4):
    """A box; among its words may be one that the works does not have."""
    words = [*works.words, "other"]
    instruments = []
    for name in chance.sample(["ma", "mo", "mu", "na", "no", "nu"], chance.randrange(1, most + 1)):
        some = chance.sample(words, chance.randrange(1, len(words) + 1))[:10]
        if chance.random() < 0.6:
            sights = {word: chance.choice(["s", "s", "t", "u"]) for word in some}
            instruments.append(Sensor(name, chance.randrange(2), sights, chance.randrange(1, 9)))
        else:
            instruments.append(Lock(name, chance.randrange(2), some, chance.randrange(1, 9)))
    return Box(instruments)


def some_set(chance, box):
    names = chance.sample(box.names(), chance.randrange(len(box) + 1))
    return chance.choice([list, tuple])(names)


def turned_box(chance, box):
    return Box([box[name] for name in chance.sample(box.names(), len(box))])


def turned_set(chance, chosen):
    return tuple(chance.sample(list(chosen), len(chosen)))


def some_wish(chance, works):
    """A wish of a works that has faults and secrets."""
    form = chance.choice(["kept", "told", "told", "warned", "warned", "hidden", "hidden", "sure"])
    if form == "kept":
        return ("kept",)
    if form in ("told", "warned"):
        return (form, chance.choice(works.faults), chance.choice([0, 0, 0, 1, 1, 2, 3, 1000]))
    if form == "hidden":
        return (form, chance.choice(works.secrets), chance.random() < 0.5)
    words = [*works.words, "other"]
    seen, wanted = [chance.sample(words, min(len(words), chance.choice([0, 1, 1, 2]))) for _ in range(2)]
    return (form, tuple(sorted(seen)), tuple(sorted(wanted)))


def some_wishes(chance, works, box, most=4):
    """A row of wishes, most of which are fulfilled by the empty or by the whole set."""
    rows = []
    for _ in range(chance.randrange(1, most + 1)):
        wish = some_wish(chance, works)
        for _ in range(4):
            if any(fulfils(works, box, chosen, wish) for chosen in ([], box.names())):
                break
            wish = some_wish(chance, works)
        rows.append(wish)
    return chance.choice([list, tuple])(rows)
