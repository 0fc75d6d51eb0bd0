"""Notes: how a rule is written as a line, and how a line is read."""

from factloom.errors import NoRule

SMALL = "abcdefghijklmnopqrstuvwxyz"
GREAT = "ABCDEFGHIJKLMNOPQRSTUVWXYZ"
FIGURES = "0123456789"


def shown(rule):
    """The line that the rule is written as."""
    head = shown_atom(rule[0])
    if not rule[1]:
        return head
    body = " and ".join([shown_atom(atom) for atom in rule[1]])
    return f"{head} if {body}"


def shown_atom(atom):
    """The atom as it stands in a line."""
    relation = atom[0]
    parts = ", ".join([str(part) for part in atom[1:]])
    return f"{relation}({parts})"


def read(line):
    """The rule that the line is written for."""
    # No written atom holds ` if ` or ` and `, so the line can be cut wherever these stand.
    pieces = line.partition(" if ")
    head = read_atom(pieces[0])
    if pieces[1] == "":
        return (head, ())
    return (head, tuple([read_atom(text) for text in pieces[2].split(" and ")]))


def read_atom(text):
    """The atom that the text is written for."""
    pieces = text.partition("(")
    relation = pieces[0]
    if not is_word(relation) or not pieces[2].endswith(")"):
        raise NoRule(f"this is not written as an atom is: {text!r}")
    parts = pieces[2][:-1]
    if parts == "":
        return (relation,)
    return tuple([relation] + [read_part(part) for part in parts.split(", ")])


def read_part(text):
    """The thing or the blank that the text is written for."""
    if is_word(text) or is_written_blank(text):
        return text
    if is_written_number(text):
        return int(text)
    raise NoRule(f"this is not written as a thing or a blank is: {text!r}")


def has_only(text, signs):
    """Whether each sign of the text is one of the signs."""
    return all([sign in signs for sign in text])


def is_word(text):
    """Whether the text is a word."""
    return text != "" and has_only(text, SMALL)


def is_written_blank(text):
    """Whether a blank is written as the text."""
    return text != "" and text[0] in GREAT and has_only(text[1:], SMALL)


def is_written_number(text):
    """Whether a whole number is written as the text."""
    if text == "0":
        return True
    figures = text[1:] if text.startswith("-") else text
    return figures != "" and figures[0] != "0" and has_only(figures, FIGURES)
