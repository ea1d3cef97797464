"""Tidied circuits: no gate unused, and no two alike."""

from needleblind.circuits import Circuit
from needleblind.lines import cell_line, gate_line, line_text, read_by


def tidied(circuit):
    """The tidied circuit of a circuit."""
    stands, gates = _merged(circuit)
    cells = [(name, first, stands[source]) for name, first, source in circuit.cells()]
    opens = [stands[wire] for wire in circuit.opens()]
    used = _used([*[cell[2] for cell in cells], *opens], gates)
    lines = [cell_line(*cell) for cell in cells]
    lines.extend([f"in {name}" for name in circuit.ins()])
    lines.extend([gate_line(*gate) for gate in gates if gate[0] in used])
    lines.extend([f"open {wire}" for wire in opens])
    return Circuit(line_text(lines))


def _merged(circuit):
    # The wire that stands for each wire, and the gates left when alike ones have been made one.
    stands = {name: name for name in circuit.wires()}
    first_alike = {}
    gates = []
    for gate in circuit.gates():
        reads = [stands[wire] for wire in read_by(gate)]
        key = (gate[1], *sorted(reads))
        if key in first_alike:
            stands[gate[0]] = first_alike[key]
            continue
        first_alike[key] = gate[0]
        gates.append((gate[0], gate[1], reads[0], reads[1] if len(reads) > 1 else None))
    return stands, gates


def _used(wires, gates):
    # A dict of the wires that are told or are read by a gate that is used.
    used = {wire: True for wire in wires}
    # What reads a gate stands behind it.
    for gate in gates[::-1]:
        if gate[0] in used:
            for wire in read_by(gate):
                used[wire] = True
    return used
