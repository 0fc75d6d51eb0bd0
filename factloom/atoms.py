"""Atoms: what is a blank and what a guard, and how atoms are filled, matched and held."""

LESS = "less"
UNLIKE = "unlike"


def is_blank(part):
    """Whether the part of an atom is a blank, not a thing."""
    return isinstance(part, str) and part[0].isupper()


def is_guard(atom):
    """Whether the atom is a guard, whatever its count of parts."""
    return atom[0] == LESS or atom[0] == UNLIKE


def blanks_in(atom):
    """The blanks of the atom, each once, in the order in which they first stand in it."""
    found = {}
    for part in atom:
        if is_blank(part):
            found[part] = True
    return list(found)


def filled(atom, setting):
    """The atom with the things of the setting in the place of their blanks."""
    things = dict(setting)
    return tuple([things.get(part, part) for part in atom])


def matched(atom, fact, setting):
    """The setting gone on with so that the atom filled by it is the fact; None where there is no such one."""
    if atom[0] != fact[0] or len(atom) != len(fact):
        return None
    things = dict(setting)
    further = list(setting)
    for part, thing in zip(atom, fact):
        if is_blank(part) and part not in things:
            things[part] = thing
            further.append((part, thing))
        elif things.get(part, part) != thing:
            return None
    return further


def holds(guard):
    """Whether the guard, which has two things, holds."""
    first = guard[1]
    second = guard[2]
    if guard[0] == UNLIKE:
        return first != second
    return isinstance(first, int) and isinstance(second, int) and first < second
