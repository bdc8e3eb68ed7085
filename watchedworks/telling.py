"""Telling: how soon some post knows of a fault."""

from watchedworks.countdown import ENDLESS, countdown
from watchedworks.faultruns import are_clean_others, check_fault, check_question, fault_net, fault_words, first_of_words
from watchedworks.kinds import is_integer, is_tuple_of
from watchedworks.runs import is_kept_run
from watchedworks.searches import steps_to
from watchedworks.sets import check_chosen
from watchedworks.triples import first_faulty, met_faulty, met_plain, own_steps_from, runs_by, steps_from


def late(works, box, chosen, fault):
    check_chosen(box, chosen)
    check_fault(works, fault)
    return Unknown(fault_net(works, box, chosen, fault)).lateness()


def told(works, box, chosen, fault, within):
    check_question(works, box, chosen, fault, within)
    return Unknown(fault_net(works, box, chosen, fault)).is_over(within)


def untold(works, box, chosen, fault, within):
    check_question(works, box, chosen, fault, within)
    net = fault_net(works, box, chosen, fault)
    unknown = Unknown(net)
    if unknown.is_over(within):
        return None
    run, first, second = runs_by(unknown.moves_with_age(within))
    return (run, net.others(first, second))


def tell_paper(works, box, chosen, fault, within):
    check_question(works, box, chosen, fault, within)
    unknown = Unknown(fault_net(works, box, chosen, fault))
    return unknown.paper() if unknown.is_over(within) else None


def is_untold(works, box, chosen, fault, within, thing):
    check_question(works, box, chosen, fault, within)
    if not is_tuple_of(thing, 2):
        return False
    run, others = thing
    if not is_kept_run(works, run) or not is_tuple_of(others, 2):
        return False
    at = first_of_words(fault_words(works, fault), run)
    if at is None or len(run) - at - 1 < within:
        return False
    return are_clean_others(works, box, chosen, fault, run, others)


def is_tell_paper(works, box, chosen, fault, within, thing):
    check_question(works, box, chosen, fault, within)
    net = fault_net(works, box, chosen, fault)
    if not is_like_a_tell_paper(net, thing):
        return False
    rows, numbers = thing
    plain = {triple: True for triple in rows}
    return net.first in plain and all([
        is_right_in_plain(net, plain, numbers, within, triple) for triple in plain
    ]) and all([is_right_in_numbers(net, numbers, triple) for triple in numbers])


def is_like_a_tell_paper(net, thing):
    """Whether a thing is a pair of a list of triples, and a dict from triples to integers of at least 0."""
    if not is_tuple_of(thing, 2):
        return False
    rows, numbers = thing
    if not isinstance(rows, list) or not isinstance(numbers, dict):
        return False
    return all([net.is_triple(triple) for triple in rows]) and all([
        net.is_triple(triple) and is_integer(number) and number >= 0 for triple, number in numbers.items()
    ])


def is_right_in_plain(net, plain, numbers, within, triple):
    """Whether all steps from a plain triple lead where a tell paper has to have them."""
    if not all([behind in plain for behind, _ in steps_from(net, triple, False)]):
        return False
    return all([behind in numbers and numbers[behind] < within for behind, _ in net.fault_steps(triple)])


def is_right_in_numbers(net, numbers, triple):
    """Whether all steps from a faulty triple lead to numbers that are less, or for posts' steps not greater."""
    number = numbers[triple]
    if not all([behind in numbers and numbers[behind] < number for behind, _ in own_steps_from(net, triple)]):
        return False
    return all([behind in numbers and numbers[behind] <= number for behind, _ in net.post_steps(triple)])


class Unknown:
    """The met triples, plain ones and faulty ones: those of runs behind which no post knows the fault."""

    def __init__(self, net):
        self._net = net
        self._plain = met_plain(net)
        self._begun = first_faulty(net, self._plain)
        self._faulty = met_faulty(net, self._plain, self._begun)
        self._numbers = countdown(net, self._faulty)

    def lateness(self):
        """The least age from which on some post knows; None if there is none."""
        most = max(self._numbers.values(), default=-1)
        return None if most == ENDLESS else most + 1

    def is_over(self, within):
        """Whether some post knows of the fault at this age."""
        number = self.lateness()
        return number is not None and number <= within

    def paper(self):
        return (sorted(self._plain), {triple: self._numbers[triple] for triple in sorted(self._faulty)})

    def moves_with_age(self, age):
        """The moves of steps to a triple of a faulty run of this age, where nobody knows at this age."""
        triple = [one for one in self._begun if self._numbers[one] >= age][0]
        begun_at, moves = self._begun[triple]
        found = steps_to(self._plain, begun_at) + [moves]
        for _ in range(age):
            leg, triple = self._leg(triple)
            found.extend(leg)
        return found

    def _leg(self, triple):
        """The moves of posts' steps and one own step that loses no more than one of the own steps still possible.

        Beside them the triple to which they lead.
        """
        met = {triple: None}
        layer = [triple]
        while True:
            found = []
            for place in layer:
                for behind, moves in own_steps_from(self._net, place):
                    if self._numbers[behind] >= self._numbers[triple] - 1:
                        return (steps_to(met, place) + [moves], behind)
                for behind, moves in self._net.post_steps(place):
                    if behind not in met:
                        met[behind] = (place, moves)
                        found.append(behind)
            layer = found
