"""Rounds: the facts that follow from rules, told round by round, and the reason of each."""

from factloom.atoms import filled
from factloom.bodies import Loom, check_rule


class Weaving:
    """Sound rules at work: the facts that are told, and a loom for the body of each rule."""

    def __init__(self, rules):
        self.rules = rules
        self.looms = [Loom(rule[1]) for rule in rules]
        self.told = {}

    def one_round(self, facts):
        """The reasons of the facts that the next round gives, where `facts` are told since the round ahead of it.

        A way without one of these could be found in the round ahead, so what it gives is told: the looms leave
        it out, and the first way of each fact that isn't told is found nonetheless.
        """
        for fact in facts:
            self.told[fact] = True
        found = []
        for number, loom in enumerate(self.looms):
            loom.take_in(facts)
            found.extend(self.given_by(number, loom))
        return found

    def given_by(self, number, loom):
        """The reasons of the facts that one rule gives and that aren't told yet; from here on they are."""
        head = self.rules[number][0]
        found = []
        unfinished = loom.beginnings()
        while unfinished:
            way = unfinished.pop()
            # As long as a blank of the head is left, this is no fact, and so it isn't told.
            fact = filled(head, way[0])
            if fact not in self.told:
                if loom.is_whole(way):
                    self.told[fact] = True
                    found.append((fact, number, way[1]))
                else:
                    unfinished.extend(loom.carried_on(way))
        return found


def facts_of(found):
    """The facts that the reasons are of, in the same order."""
    return [reason[0] for reason in found]


def next_reasons(rules, facts):
    """The reasons of the facts that one round gives over the facts told in the earlier rounds."""
    return Weaving(rules).one_round(facts)


def reasons_by_round(rules):
    """A list with the reasons of its facts for each round that gives any."""
    for rule in rules:
        check_rule(rule)
    weaving = Weaving(rules)
    found = []
    latest = weaving.one_round([])
    while latest:
        found.append(latest)
        latest = weaving.one_round(facts_of(latest))
    return found


def rounds(rules):
    """A list with the facts of each round that gives any."""
    return [facts_of(found) for found in reasons_by_round(rules)]


def reasons(rules):
    """The reasons of all facts told."""
    every = []
    for found in reasons_by_round(rules):
        every.extend(found)
    return every
