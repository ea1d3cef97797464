"""Blocks: circuits without cells that are put into others."""

from needleblind.errors import BadName, NotAlike, NotBlock
from needleblind.lines import gate_line
from needleblind.names import wire_name


def block_lines(block, prefix, wires):
    """The pair (lines that put a block in, wires that stand for its open lines); wires stand for its ins."""
    if block.cells():
        raise NotBlock()
    ins = block.ins()
    if len(wires) != len(ins):
        raise NotAlike("ins")
    stands = {name: wire for name, wire in zip(ins, wires)}
    for name, _, _, _ in block.gates():
        stands[name] = f"{prefix}{name}"
        if not wire_name(stands[name]):
            raise BadName(stands[name])
    lines = []
    for name, kind, a, b in block.gates():
        lines.append(gate_line(stands[name], kind, stands[a], stands.get(b)))
    return (lines, [stands[wire] for wire in block.opens()])
