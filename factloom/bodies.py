"""Rules and bodies: which are sound, and the ways of a body over a list of facts."""

from factloom.atoms import blanks_in, filled, holds, is_guard, matched
from factloom.errors import BadGuard, BadHead, LooseBlank


def askers_in(body):
    """The atoms of the body that are not guards, in their order."""
    return [atom for atom in body if not is_guard(atom)]


def guards_in(body):
    """The guards of the body, in their order."""
    return [atom for atom in body if is_guard(atom)]


def check_rule(rule):
    """Refuse the rule where it is unsound."""
    head = rule[0]
    body = rule[1]
    if is_guard(head):
        relation = head[0]
        raise BadHead(f"a head must not be a guard: {relation}")
    check_body(body)
    refuse_loose([head], body)


def check_body(body):
    """Refuse the body where it is unsound by itself."""
    guards = guards_in(body)
    for guard in guards:
        if len(guard) != 3:
            relation = guard[0]
            raise BadGuard(f"a guard must have two parts: {relation}")
    refuse_loose(guards, body)


def refuse_loose(atoms, body):
    """Refuse where a blank of the atoms stands in no asker of the body."""
    bound = {}
    for asker in askers_in(body):
        for blank in blanks_in(asker):
            bound[blank] = True
    for atom in atoms:
        for blank in blanks_in(atom):
            if blank not in bound:
                raise LooseBlank(f"a blank must stand in an asker: {blank}")


class Step:
    """One asker of a body, made ready to carry on the ways of the askers ahead of it.

    A slot is a place in the setting of a way. Every way that comes to a step has
    the same blanks in the same slots, so these are looked up once for all ways.
    """

    def __init__(self, shared, offers, guards):
        """`shared`: the slots of the asker's blanks that stand in an asker ahead of it.
        `offers`: by the things of these blanks, the place and the new pairs of each fact.
        `guards`: pairs of a guard that can be tried from here on and the slots of its blanks.
        """
        self.shared = shared
        self.offers = offers
        self.guards = guards

    def allows(self, setting):
        """Whether each guard of this step holds."""
        for guard, slots in self.guards:
            if not holds(filled(guard, [setting[slot] for slot in slots])):
                return False
        return True

    def carry_on(self, way):
        """The way with one more asker, once for each fact that fits, in the order of the facts."""
        setting = way[0]
        places = way[1]
        shared_things = tuple([setting[slot][1] for slot in self.shared])
        found = []
        for place, pairs in self.offers.get(shared_things, []):
            further = setting + pairs
            if self.allows(further):
                found.append((further, places + (place,)))
        return found


def offers_for(asker, facts, slots):
    """The facts that the asker matches, by the things of those of its blanks that have a slot."""
    offers = {}
    for place, fact in enumerate(facts):
        setting = matched(asker, fact, [])
        if setting is not None:
            shared_things = tuple([thing for blank, thing in setting if blank in slots])
            pairs = [(blank, thing) for blank, thing in setting if blank not in slots]
            offers.setdefault(shared_things, []).append((place, pairs))
    return offers


def slots_of(atom, slots):
    """The slots of the atom's blanks, of those that have one."""
    return [slots[blank] for blank in blanks_in(atom) if blank in slots]


def is_ready(guard, slots):
    """Whether all blanks of the guard have a slot."""
    return len(slots_of(guard, slots)) == len(blanks_in(guard))


def steps_for(facts, body):
    """A step for each asker of the body, in their order."""
    waiting = [guard for guard in guards_in(body) if blanks_in(guard)]
    slots = {}
    steps = []
    for asker in askers_in(body):
        shared = slots_of(asker, slots)
        offers = offers_for(asker, facts, slots)
        for blank in blanks_in(asker):
            slots.setdefault(blank, len(slots))
        # A guard is tried as soon as its blanks are given, so that no way is carried on in vain.
        guards = [(guard, slots_of(guard, slots)) for guard in waiting if is_ready(guard, slots)]
        waiting = [guard for guard in waiting if not is_ready(guard, slots)]
        steps.append(Step(shared, offers, guards))
    return steps


def ways(facts, body):
    """The ways of the sound body over the facts, in rising order of their places."""
    if not all([holds(guard) for guard in guards_in(body) if not blanks_in(guard)]):
        return []
    steps = steps_for(facts, body)
    # An asker without any fact ends it here; found later, all ways of the askers ahead would be tried first.
    if not all([len(step.offers) > 0 for step in steps]):
        return []
    found = []
    # A list of unfinished ways, not a recursion, for a body may have hundreds of askers.
    unfinished = [([], ())]
    while unfinished:
        way = unfinished.pop()
        taken = len(way[1])
        if taken == len(steps):
            found.append(way)
        else:
            # The last one is taken next, so the way with the lowest place goes in last.
            for further in reversed(steps[taken].carry_on(way)):
                unfinished.append(further)
    return found
