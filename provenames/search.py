"""The search for all answers to a question, and for all cuts without a link, in signed sets."""

from provenames.rules import ANSWERS_BY_ONE, ANSWERS_BY_TWO, is_answerable, source_if_clear
from provenames.trust import trust_in

# Of two answers of the same rank the one whose code stands first here comes first.
CODES_IN_ORDER = ("data", "alias", "nodata", "noname")


def answers(notary, anchors, time, signed_sets, name, kind):
    """Return the answers to the question in order: pairs of an outcome and a derivation."""
    trust = trust_in(notary, anchors, time, signed_sets)
    return [(step[1][3], trust.derivation(step)) for step in answering_steps(trust, name, kind)]


def unlinked(notary, anchors, time, signed_sets):
    """Return the names of cuts without a link in ascending order, each with a derivation."""
    trust = trust_in(notary, anchors, time, signed_sets)
    places = {fact[1]: place for place, fact in enumerate(trust.facts()) if fact[0] == "unlinked"}
    return [(cut, trust.derivation_of(places[cut])) for cut in sorted(places)]


def answering_steps(trust, name, kind):
    """Return for each answer, in order, a step with it; the premises are places in the trust."""
    best = {}
    for rank, rule, outcome, premises in found_by_one(trust, name, kind) + found_by_two(trust, name, kind):
        if outcome not in best or best[outcome][0] < rank:
            best[outcome] = (rank, (rule, ("answer", name, kind, outcome), premises, None))
    return [ranked[1] for ranked in sorted(list(best.values()), key=order_of_ranked)]


def order_of_ranked(ranked):
    """Return what answers are ordered by; the answer is a pair of its rank and its step."""
    depth, edition = ranked[0]
    outcome = ranked[1][1][3]
    return (-depth, -edition, CODES_IN_ORDER.index(outcome[0]), outcome)


def found_by_one(trust, name, kind):
    """Return what rules with one premise find: ranks, rules, outcomes and premises."""
    places = trust.sets_of(name)
    for group in trust.gap_groups():
        places.extend(group)
    found = []
    for place in places:
        zone, edition, record_set = trust.fact_at(place)[1:]
        if is_answerable(zone, name, kind):
            for rule in ANSWERS_BY_ONE:
                answer = ANSWERS_BY_ONE[rule]
                outcome = answer(zone, record_set, name, kind)
                if outcome is not None:
                    found.append(((len(zone), edition), rule, outcome, (place,)))
    return found


def found_by_two(trust, name, kind):
    """Return what rules with two premises find: ranks, rules, outcomes and premises."""
    found = []
    for group in trust.gap_groups():
        clearing = clearing_places(trust, group, name)
        for origin in clearing:
            for second in group + trust.sets_of(origin):
                found.extend(found_by_pair(trust, (clearing[origin], second), origin, (name, kind)))
    return found


def clearing_places(trust, places, name):
    """Return for each source by one of the gap sets that clear the name the place of such a one."""
    clearing = {}
    for place in places:
        zone, _, record_set = trust.fact_at(place)[1:]
        origin = source_if_clear(zone, record_set, name)
        if origin is not None:
            clearing.setdefault(origin, place)
    return clearing


def found_by_pair(trust, premises, origin, question):
    """Return what the two premises find, the first of which clears the name with this source."""
    name, kind = question
    zone, edition = trust.fact_at(premises[0])[1:3]
    second = trust.fact_at(premises[1])
    if second[1:3] != (zone, edition) or not is_answerable(zone, name, kind):
        return []
    found = []
    for rule in ANSWERS_BY_TWO:
        answer = ANSWERS_BY_TWO[rule]
        outcome = answer(zone, second[3], origin, kind)
        if outcome is not None:
            found.append(((len(zone), edition), rule, outcome, premises))
    return found
