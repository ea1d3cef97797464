"""Circuits: the lines of their texts."""

from needleblind.errors import BadCircuit, TooMany
from needleblind.lines import cut_lines, gate_of, read_by
from needleblind.names import wire_name

MOST_CELLS = 120
MOST_INS = 16
MOST_GATES = 4000
MOST_OPENS = 8


class Circuit:
    """A circuit, which never changes."""

    def __init__(self, text):
        forms = _forms_in(text)
        self._text = text
        self._cells = _told_by(forms, "cell")
        self._ins = _told_by(forms, "in")
        self._gates = _told_by(forms, "gate")
        self._opens = _told_by(forms, "open")
        # By each wire what gives it; a dict, so that each one is found at once.
        self._kinds = {form[1]: _giver_of(form) for form in forms if form[0] != "open"}
        _check_many("cells", len(self._cells), MOST_CELLS)
        _check_many("ins", len(self._ins), MOST_INS)
        _check_many("gates", len(self._gates), MOST_GATES)
        _check_many("opens", len(self._opens), MOST_OPENS)

    def __eq__(self, other):
        return isinstance(other, Circuit) and self._text == other._text

    def __contains__(self, value):
        return isinstance(value, str) and value in self._kinds

    def __str__(self):
        return str(self._text)

    def __repr__(self):
        return f"Circuit({len(self._cells)} cells, {len(self._ins)} ins, {len(self._gates)} gates)"

    def text(self):
        """The text."""
        return self._text

    def cells(self):
        """The tuples (name, first, from) of the cells, with None as first for a secret cell."""
        return list(self._cells)

    def secret_cells(self):
        """The names of the secret cells."""
        return [cell[0] for cell in self._cells if cell[1] is None]

    def ins(self):
        """The names of the ins."""
        return list(self._ins)

    def gates(self):
        """The tuples (name, kind, a, b) of the gates, with None as b for a not."""
        return list(self._gates)

    def opens(self):
        """The opened wires, as often as they are opened."""
        return list(self._opens)

    def wires(self):
        """All wires."""
        return list(self._kinds)

    def kind_of(self, value):
        """What gives a wire: cell, in, xor, and or not; None for any value that is no wire."""
        return self._kinds[value] if isinstance(value, str) and value in self._kinds else None


def _forms_in(text):
    # The forms of all lines; raises the first fault.
    if not isinstance(text, str):
        raise BadCircuit(0, "form")
    lines, lacks_end = cut_lines(text)
    forms = []
    given = {}
    for at, line in enumerate(lines):
        form = _form_of(line.split(" "))
        if form is None or (lacks_end and at == len(lines) - 1):
            raise BadCircuit(at + 1, "form")
        why = _fault_of(form, given)
        if why is not None:
            raise BadCircuit(at + 1, why)
        given[form[1]] = True
        forms.append(form)
    _check_from_wires(forms, given)
    return forms


def _form_of(words):
    # The tuple (kind of line, wire that it gives or opens, what is told of it, wires that it reads),
    # or None if the line has no form.
    if "" in words:
        return None
    if len(words) == 2 and words[0] in ("in", "open"):
        reads = () if words[0] == "in" else (words[1],)
        return (words[0], words[1], words[1], reads)
    if len(words) == 4 and words[0] == "secret" and words[2] == "from":
        return ("cell", words[1], (words[1], None, words[3]), ())
    if len(words) == 5 and words[0] == "cell" and words[2] in ("0", "1") and words[3] == "from":
        return ("cell", words[1], (words[1], int(words[2]), words[4]), ())
    gate = gate_of(words)
    return None if gate is None else ("gate", gate[0], gate, read_by(gate))


def _giver_of(form):
    return form[2][1] if form[0] == "gate" else form[0]


def _fault_of(form, given):
    kind, wire, _, reads = form
    if kind != "open" and not wire_name(wire):
        return "name"
    if kind != "open" and wire in given:
        return "twice"
    for name in reads:
        if name not in given:
            return "unknown"
    return None


def _check_from_wires(forms, given):
    for at, form in enumerate(forms):
        if form[0] == "cell" and form[2][2] not in given:
            raise BadCircuit(at + 1, "unknown")


def _told_by(forms, kind):
    return [form[2] for form in forms if form[0] == kind]


def _check_many(what, many, most):
    if many > most:
        raise TooMany(what, many)
