"""Texts that are read line by line."""


def cut_lines(text):
    """The pair (lines of a text without their line feeds, whether the last one lacks it)."""
    lines = text.split("\n")
    if lines[-1] == "":
        return lines[:-1], False
    return lines, True
