"""Texts that are read and written line by line."""


def cut_lines(text):
    """The pair (lines of a text without their line feeds, whether the last one lacks it)."""
    lines = text.split("\n")
    if lines[-1] == "":
        return lines[:-1], False
    return lines, True


def line_text(lines):
    """The text of lines without their line feeds."""
    return "".join([f"{line}\n" for line in lines])


def gate_of(words):
    """The tuple (name, kind, a, b) of a line's words that have the form of a gate, or None."""
    if len(words) == 4 and words[1] == "=" and words[2] == "not":
        return (words[0], "not", words[3], None)
    if len(words) == 5 and words[1] == "=" and words[3] in ("xor", "and"):
        return (words[0], words[3], words[2], words[4])
    return None


def read_by(gate):
    """The tuple of the wires that a gate reads."""
    return (gate[2],) if gate[1] == "not" else (gate[2], gate[3])


def gate_line(name, kind, a, b):
    """The line of a gate."""
    return f"{name} = not {a}" if kind == "not" else f"{name} = {a} {kind} {b}"


def cell_line(name, first, source):
    """The line of a cell, with None as first for a secret cell."""
    return f"secret {name} from {source}" if first is None else f"cell {name} {first} from {source}"
