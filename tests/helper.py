"""What several tests use: the points of the document taken to the letter, by trying all there is to try, and rules."""

import itertools
import random

from factloom.errors import BadGuard, BadHead, LooseBlank

GUARDS = ("less", "unlike")

ROADS = [(("road", "elm", "oak"), ()), (("road", "oak", "ash"), ()), (("road", "ash", "fir"), ())]
STEP = (("way", "X", "Y"), (("road", "X", "Y"),))
FAR = (("way", "X", "Z"), (("road", "X", "Y"), ("way", "Y", "Z")))

UNSOUND = (
    ((("less", 1, 2), ()), BadHead),
    ((("p",), (("less", 1),)), BadGuard),
    ((("p", "X"), ()), LooseBlank),
)

POOL = (
    (("p", 1, 2), ()),
    (("p", 2, "a"), ()),
    (("q", 1), ()),
    (("q", "X"), (("p", "X", "Y"),)),
    (("q", "Y"), (("p", "X", "Y"), ("q", "X"))),
    (("p", "X", "Z"), (("p", "X", "Y"), ("p", "Y", "Z"))),
    (("p", "Y", "X"), (("q", "X"), ("p", "X", "Y"))),
    (("p", "X", "X"), (("q", "X"), ("unlike", "X", 1))),
    (("p", "X", "Y"), (("q", "X"), ("less", "X", "Y"), ("q", "Y"))),
    (("r",), (("q", "X"), ("q", "Y"), ("unlike", "X", "Y"))),
    (("q", 2), (("r",), ("less", 1, 2))),
    (("q", 2), (("q", 2),)),
    (("p", "a", "X"), (("r",), ("p", "X", "X"))),
    (("s", "X", "Y"), (("p", "Y", "Z"), ("q", "Z"), ("p", "X", "Y"), ("unlike", "X", "Z"))),
)


def small_rule_sets():
    """All of up to two rules of the pool, and many of more; the same ones at each run."""
    for count in range(3):
        for rules in itertools.product(POOL, repeat=count):
            yield list(rules)
    chosen = random.Random(20)
    for turn in range(700):
        yield [chosen.choice(POOL) for place in range(chosen.randint(3, 12))]


def unsound_sets_of_rules():
    """Rules with two unsound ones, each with the refusal of the first."""
    for (first, refusal), (second, other) in itertools.permutations(UNSOUND, 2):
        yield [(("rain",), ()), STEP, first, FAR, second], refusal


def facts_of(found):
    return [reason[0] for reason in found]


def is_great(part):
    return isinstance(part, str) and part[:1].isupper()


def put_in(atom, given):
    return tuple(given[part] if is_great(part) else part for part in atom)


def guard_is_true(relation, first, second):
    if relation == "unlike":
        return first != second
    return isinstance(first, int) and isinstance(second, int) and first < second


def things_in(atoms):
    """Every thing that stands in one of the atoms as a part, once."""
    return list(dict.fromkeys(part for atom in atoms for part in atom[1:] if not is_great(part)))


def ways_by_trying_all(facts, body, things):
    """Point 8: every setting of the askers' blanks is tried, the ways are put in order at the end."""
    askers = [atom for atom in body if atom[0] not in GUARDS]
    guards = [atom for atom in body if atom[0] in GUARDS]
    blanks = list(dict.fromkeys(part for atom in askers for part in atom[1:] if is_great(part)))
    found = []
    for chosen in itertools.product(things, repeat=len(blanks)):
        given = dict(zip(blanks, chosen))
        wanted = [put_in(atom, given) for atom in askers]
        if all(fact in facts for fact in wanted) and all(guard_is_true(*put_in(atom, given)) for atom in guards):
            found.append((list(given.items()), tuple(facts.index(fact) for fact in wanted)))
    return sorted(found, key=lambda way: way[1])


def one_round_by_trying_all(rules, facts):
    """Points 9 to 11: all ways of all rules are tried, for each new fact the lowest one is its reason."""
    things = things_in(facts)
    given = {}
    for number, (head, body) in enumerate(rules):
        for setting, places in ways_by_trying_all(facts, body, things):
            fact = put_in(head, dict(setting))
            if fact not in facts:
                given.setdefault(fact, []).append((number, places))
    found = [(fact,) + min(by) for fact, by in given.items()]
    return sorted(found, key=lambda reason: reason[1:])


def rounds_by_trying_all(rules):
    """Points 9 to 11: a list with the reasons of each round that gives any fact."""
    facts = []
    found = []
    while True:
        latest = one_round_by_trying_all(rules, facts)
        if not latest:
            return found
        found.append(latest)
        facts = facts + [reason[0] for reason in latest]


def grounds_by_going_back(every, fact):
    """Point 13: from the fact's reason the facts are gone back to that it rests on, one by one."""
    by_fact = {reason[0]: reason for reason in every}
    needed = set()
    waiting = [fact]
    while waiting:
        latest = waiting.pop()
        needed.add(latest)
        waiting.extend(every[place][0] for place in by_fact[latest][2] if every[place][0] not in needed)
    kept = [reason for reason in every if reason[0] in needed]
    facts = [reason[0] for reason in kept]
    return [(this, rule, tuple(facts.index(every[place][0]) for place in places)) for this, rule, places in kept]
