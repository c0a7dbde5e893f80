"""Texts of systems, and systems from their texts."""

from lastofkind.errors import NoText
from lastofkind.systems import check_system, is_system

DIGITS = "0123456789"


def operation_line(entry, operation, kind):
    """Return the line for an operation, without its line feed."""
    words = [f"{entry}:"] + [str(state) for state in operation]
    if kind is not None:
        words = words + ["kind", str(kind)]
    return " ".join(words)


def system_text(system):
    """Return the text of a system."""
    check_system(system)
    states, start, operations, kinds = system
    lines = [f"states {states} start {start}"]
    for entry, operation in enumerate(operations):
        lines.append(operation_line(entry, operation, kinds[entry]))
    return "\n".join(lines) + "\n"


def number_of(word):
    """Return the number that a word of one digit stands for, otherwise one that no system contains."""
    # All numbers of a system have one digit.
    return DIGITS.find(word) if len(word) == 1 else -1


def likely_system(text):
    """Return the system of which this may be the text, or what is no system."""
    lines = text.split("\n")
    head = lines[0].split(" ")
    if len(head) != 4:
        return None
    states = number_of(head[1])
    rows = [line.split(" ")[1:] for line in lines[1:-1]]
    operations = [tuple([number_of(word) for word in row[:states]]) for row in rows]
    kinds = [number_of(row[-1]) if "kind" in row else None for row in rows]
    return states, number_of(head[3]), tuple(operations), tuple(kinds)


def read_system(text):
    """Return the system with exactly this text."""
    if not isinstance(text, str):
        raise NoText()
    system = likely_system(text)
    # What was passed over in the text shows here: a system has one text only.
    if not is_system(system) or system_text(system) != text:
        raise NoText()
    return system
