"""Good sets: those that fulfil all of some wishes."""

from watchedworks.errors import NotGood
from watchedworks.sets import check_chosen
from watchedworks.surveys import Survey, check_wishes, greatest_of, least_of, places_of
from watchedworks.wishes import against, fulfils


def is_good(works, box, wishes, chosen):
    check_wishes(works, wishes)
    check_chosen(box, chosen)
    # All wishes are asked, also behind one that is not fulfilled: one of them may raise an error.
    return all([fulfils(works, box, chosen, wish) for wish in wishes])


def good_sets(works, box, wishes):
    for chosen in goods(works, box, wishes):
        yield chosen


def least_good(works, box, wishes):
    return least_of(goods(works, box, wishes))


def greatest_good(works, box, wishes):
    return greatest_of(goods(works, box, wishes))


def cheapest(works, box, wishes):
    costs = {chosen: box.price(chosen) for chosen in goods(works, box, wishes)}
    if not costs:
        return None
    least = min(list(costs.values()))
    return (least, [chosen for chosen in costs if costs[chosen] == least])


def why_not(works, box, wishes, chosen):
    check_wishes(works, wishes)
    check_chosen(box, chosen)
    things = [against(works, box, chosen, wish) for wish in wishes]
    for at, thing in enumerate(things):
        if thing is not None:
            return (at, thing)
    return None


def robust_sets(works, box, wishes):
    good = goods(works, box, wishes)
    return [chosen for chosen in good if spare_of(good, chosen) == chosen]


def least_robust(works, box, wishes):
    return least_of(robust_sets(works, box, wishes))


def spare(works, box, wishes, chosen):
    check_wishes(works, wishes)
    check_chosen(box, chosen)
    survey = Survey(works, box, wishes)
    ascending = tuple(sorted(chosen))
    at = survey.first_lack(ascending, places_of(wishes))
    if at is not None:
        raise NotGood(at)
    return spare_of(survey.sets_with(places_of(wishes)), ascending)


def goods(works, box, wishes):
    """The good sets, ascending."""
    check_wishes(works, wishes)
    return Survey(works, box, wishes).sets_with(places_of(wishes))


def spare_of(good, chosen):
    """The instruments of an ascending set, each of which can be lost so that the rest is one of the good sets."""
    return tuple([name for name in chosen if tuple([other for other in chosen if other != name]) in good])
