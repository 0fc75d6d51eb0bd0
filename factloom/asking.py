"""Asking: the grounds of a fact, and the answers to a body."""

from factloom.bodies import check_body, ways
from factloom.errors import NotTold
from factloom.rounds import facts_of, reasons


def needed_for(found, last):
    """The places, rising, of the reason at the place `last` and of all that it rests on in however many steps."""
    needed = {last: True}
    # A reason rests on earlier ones alone, so one walk from the last to the first finds all.
    for place in range(last, -1, -1):
        if place in needed:
            for lower in found[place][2]:
                needed[lower] = True
    return sorted(needed)


def grounds(rules, fact):
    """The reasons of the fact, which is the last of them, and of all facts that they rest on."""
    found = reasons(rules)
    facts = facts_of(found)
    if fact not in facts:
        raise NotTold("the rules don't tell this fact")
    kept = []
    new_places = {}
    for place in needed_for(found, facts.index(fact)):
        reason = found[place]
        new_places[place] = len(kept)
        kept.append((reason[0], reason[1], tuple([new_places[lower] for lower in reason[2]])))
    return kept


def asked(rules, body):
    """The settings of the ways of the body over all facts that the rules tell."""
    facts = facts_of(reasons(rules))
    check_body(body)
    return [way[0] for way in ways(facts, body)]
