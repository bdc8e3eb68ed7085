"""Foretelling: how far ahead of a fault some post knows that it will come."""

from watchedworks.faultruns import are_clean_others, check_fault, check_question, fault_net, fault_words, first_of_words
from watchedworks.kinds import is_integer, is_tuple_of
from watchedworks.outlook import Outlook
from watchedworks.runs import end_of_moves, is_kept_run
from watchedworks.searches import steps_to
from watchedworks.sets import check_chosen
from watchedworks.triples import met_plain, runs_by, steps_from


def doomed(works, fault):
    check_fault(works, fault)
    return Outlook(works, fault).doomed_standings()


def warned(works, box, chosen, fault, ahead):
    return unwarned(works, box, chosen, fault, ahead) is None


def lead(works, box, chosen, fault):
    check_chosen(box, chosen)
    check_fault(works, fault)
    met = met_plain(fault_net(works, box, chosen, fault))
    outlook = Outlook(works, fault)
    if outlook.shortest is None:
        return None
    for ahead in range(len(outlook.shortest) + 1):
        if unwarned_triple(met, outlook, ahead) is not None:
            return ahead - 1
    return len(outlook.shortest)


def unwarned(works, box, chosen, fault, ahead):
    check_question(works, box, chosen, fault, ahead)
    net = fault_net(works, box, chosen, fault)
    met = met_plain(net)
    outlook = Outlook(works, fault)
    if outlook.has_less_than(ahead):
        return (outlook.shortest, -1, (None, None))
    triple = unwarned_triple(met, outlook, ahead)
    if triple is None:
        return None
    run, first, second = runs_by(steps_to(met, triple))
    return (run + outlook.way_on(triple[0], ahead), len(run), net.others(first, second))


def warn_paper(works, box, chosen, fault, ahead):
    check_question(works, box, chosen, fault, ahead)
    met = met_plain(fault_net(works, box, chosen, fault))
    outlook = Outlook(works, fault)
    if outlook.has_less_than(ahead) or unwarned_triple(met, outlook, ahead) is not None:
        return None
    return [] if outlook.is_settled() else sorted(met)


def is_unwarned(works, box, chosen, fault, ahead, thing):
    check_question(works, box, chosen, fault, ahead)
    if not is_tuple_of(thing, 3):
        return False
    run, at, others = thing
    outlook = Outlook(works, fault)
    if not is_open_run(works, outlook, fault, run) or not is_integer(at) or not is_tuple_of(others, 2):
        return False
    if len(run) < ahead:
        return at == -1 and others[0] is None and others[1] is None
    if at != len(run) - ahead or outlook.is_settled():
        return False
    return are_clean_others(works, box, chosen, fault, run[:at], others) and not any([
        outlook.is_doomed(end_of_moves(works, other)) for other in others if other is not None
    ])


def is_warn_paper(works, box, chosen, fault, ahead, thing):
    check_question(works, box, chosen, fault, ahead)
    outlook = Outlook(works, fault)
    if not isinstance(thing, list) or outlook.has_less_than(ahead):
        return False
    if outlook.is_settled():
        return len(thing) == 0
    net = fault_net(works, box, chosen, fault)
    if not all([net.is_triple(triple) for triple in thing]):
        return False
    triples = {triple: True for triple in thing}
    return (
        net.first in triples
        and all([behind in triples for triple in triples for behind, _ in steps_from(net, triple, False)])
        and unwarned_triple(triples, outlook, ahead) is None
    )


def is_open_run(works, outlook, fault, thing):
    if not is_kept_run(works, thing) or first_of_words(fault_words(works, fault), thing) is not None:
        return False
    return outlook.is_open(end_of_moves(works, thing))


def unwarned_triple(triples, outlook, ahead):
    """The first of the triples where no post foretells the fault, though a run may be open just so many moves later.

    None if there is none. No open run may have fewer moves than that.
    """
    if outlook.is_settled():
        return None
    standings = outlook.standings_ahead(ahead)
    for triple in triples:
        if triple[0] in standings and not any([outlook.is_doomed(standing) for standing in triple[1:]]):
            return triple
    return None
