"""Rules and bodies: which are sound, and the ways of a body over a list of facts."""

from factloom.atoms import blanks_in, filled, holds, is_guard, matched
from factloom.errors import BadGuard, BadHead, LooseBlank


def askers_in(body):
    """The atoms of the body that are not guards, in their order."""
    return [atom for atom in body if not is_guard(atom)]


def guards_in(body):
    """The guards of the body, in their order."""
    return [atom for atom in body if is_guard(atom)]


def check_rule(rule):
    """Refuse the rule where it is unsound."""
    head = rule[0]
    body = rule[1]
    if is_guard(head):
        relation = head[0]
        raise BadHead(f"a head must not be a guard: {relation}")
    check_body(body)
    refuse_loose([head], body)


def check_body(body):
    """Refuse the body where it is unsound by itself."""
    guards = guards_in(body)
    for guard in guards:
        if len(guard) != 3:
            relation = guard[0]
            raise BadGuard(f"a guard must have two parts: {relation}")
    refuse_loose(guards, body)


def refuse_loose(atoms, body):
    """Refuse where a blank of the atoms stands in no asker of the body."""
    bound = {}
    for asker in askers_in(body):
        for blank in blanks_in(asker):
            bound[blank] = True
    for atom in atoms:
        for blank in blanks_in(atom):
            if blank not in bound:
                raise LooseBlank(f"a blank must stand in an asker: {blank}")


class Step:
    """One asker of a body, made ready to carry on the ways of the askers ahead of it.

    A slot is a place in the setting of a way. Every way that comes to a step has
    the same blanks in the same slots, so these are looked up once for all ways.
    """

    def __init__(self, asker, shared, guards):
        """`shared`: the slots of the asker's blanks that stand in an asker ahead of it, by blank.
        `guards`: pairs of a guard that can be tried from here on and the slots of its blanks.
        """
        self.asker = asker
        self.shared = shared
        self.guards = guards
        # By the things of the shared blanks: the place and the new pairs of each fact that fits.
        self.offers = {}
        self.newest = -1

    def offer(self, place, fact):
        """Take in the fact that has the place, if the asker matches it."""
        setting = matched(self.asker, fact, [])
        if setting is not None:
            shared_things = tuple([thing for blank, thing in setting if blank in self.shared])
            pairs = [(blank, thing) for blank, thing in setting if blank not in self.shared]
            self.offers.setdefault(shared_things, []).append((place, pairs))
            self.newest = place

    def allows(self, setting):
        """Whether each guard of this step holds."""
        for guard, slots in self.guards:
            if not holds(filled(guard, [setting[slot] for slot in slots])):
                return False
        return True

    def carry_on(self, way, lowest):
        """The way with one more asker, once for each fact that fits and whose place is `lowest` or above it.

        They come in falling order of places.
        """
        setting = way[0]
        places = way[1]
        shared_things = tuple([setting[slot][1] for slot in self.shared.values()])
        found = []
        for place, pairs in reversed(self.offers.get(shared_things, [])):
            if place < lowest:
                break
            further = setting + pairs
            if self.allows(further):
                found.append((further, places + (place,)))
        return found


def slots_of(atom, slots):
    """The slots of the atom's blanks, of those that have one."""
    return [slots[blank] for blank in blanks_in(atom) if blank in slots]


def is_ready(guard, slots):
    """Whether all blanks of the guard have a slot."""
    return len(slots_of(guard, slots)) == len(blanks_in(guard))


def steps_for(body):
    """A step for each asker of the body, in their order."""
    waiting = [guard for guard in guards_in(body) if blanks_in(guard)]
    slots = {}
    steps = []
    for asker in askers_in(body):
        shared = dict([(blank, slots[blank]) for blank in blanks_in(asker) if blank in slots])
        for blank in blanks_in(asker):
            slots.setdefault(blank, len(slots))
        # A guard is tried as soon as its blanks are given, so that no way is carried on in vain.
        guards = [(guard, slots_of(guard, slots)) for guard in waiting if is_ready(guard, slots)]
        waiting = [guard for guard in waiting if not is_ready(guard, slots)]
        steps.append(Step(asker, shared, guards))
    return steps


class Loom:
    """A sound body that takes in facts and finds its ways over them.

    Facts may be taken in by several calls. Those of the last call are fresh, and only the ways that have
    a fresh fact are found: the others could be found ahead of that call.
    """

    def __init__(self, body):
        self.steps = steps_for(body)
        self.is_barred = not all([holds(guard) for guard in guards_in(body) if not blanks_in(guard)])
        self.taken_in = 0
        self.fresh = 0
        self.last_fresh_step = -1

    def take_in(self, facts):
        """Let the facts stand behind those taken in by the calls ahead of this one."""
        self.fresh = self.taken_in
        self.taken_in = self.fresh + len(facts)
        for step in self.steps:
            for place, fact in enumerate(facts, start=self.fresh):
                step.offer(place, fact)
        self.last_fresh_step = max([n for n, step in enumerate(self.steps) if step.newest >= self.fresh], default=-1)

    def beginnings(self):
        """A list with the way of no asker, or an empty list where no way can come of it."""
        if self.is_barred or (self.last_fresh_step < 0 and self.fresh > 0):
            return []
        # An asker without any fact ends it here; found later, all ways of the askers ahead would be tried first.
        if not all([step.newest >= 0 for step in self.steps]):
            return []
        return [([], ())]

    def is_whole(self, way):
        """Whether the way has a place for each asker."""
        return len(way[1]) == len(self.steps)

    def carried_on(self, way):
        """The way with one more asker, in falling order of places."""
        taken = len(way[1])
        lowest = 0
        # From here on no asker has a fresh fact, so a way without one must take it now.
        if taken == self.last_fresh_step and max(way[1], default=-1) < self.fresh:
            lowest = self.fresh
        return self.steps[taken].carry_on(way, lowest)


def ways(facts, body):
    """The ways of the sound body over the facts, in rising order of their places."""
    loom = Loom(body)
    loom.take_in(facts)
    found = []
    # A list of unfinished ways, not a recursion, for a body may have hundreds of askers.
    unfinished = loom.beginnings()
    while unfinished:
        # The last one has the lowest places, so the ways are found in rising order.
        way = unfinished.pop()
        if loom.is_whole(way):
            found.append(way)
        else:
            unfinished.extend(loom.carried_on(way))
    return found
