"""The circuit of a code, which does in each beat what the machine does."""

from needleblind.bits import bits_of, number_of
from needleblind.circuits import Circuit
from needleblind.lines import cell_line, gate_line, line_text
from needleblind.plain import Secrets
from needleblind.walks import check_secrets
from needleblind.wiring import Wiring

# What leaves A as it is.
KEEPING = ("store", "index", "put", "jump", "jumpzero", "show", "stop")
READING = ("load", "add", "sub", "and", "or", "xor", "eq", "less")


def circuit_of(code):
    """The circuit of a code."""
    return Circuit(Processor(code).circuit_text())


def secrets_of(code, worths):
    """The Secrets of a list of the secrets, without later rows."""
    check_secrets(code.program, worths)
    bits = []
    for worth in worths:
        bits.extend(bits_of(worth, code.width))
    return Secrets(bits)


def shown_in(rows):
    """The pairs (beat, number) that opened rows tell, in a list from beat 0 on."""
    return [(beat, number_of(row[1:])) for beat, row in enumerate(rows) if row[0] == 1]


class Processor:
    """Lays the circuit of a code.

    Of P it keeps only how far it is behind the first item of its row: an index stands straight ahead of each get
    and put, so that the place tells the row.
    """

    def __init__(self, code):
        self.code = code
        self.width = code.width
        self.instructions = code.rows()
        self.wiring = Wiring()
        self.word_wires = [_named_wires(f"w{at}b", code.width) for at in range(len(code.memory()))]
        self.worth_wires = _named_wires("a", code.width)
        self.offset_wires = _named_wires("p", min(code.width, _offset_bits(self.instructions)))
        self.place_wires = _named_wires("i", (len(code) - 1).bit_length())
        self.at_place = self.decoded(1, self.place_wires, len(code))

    def circuit_text(self):
        """The text of the circuit."""
        operand = self.operand()
        worth = self.next_worth(operand)
        words = self.next_words()
        offset = self.next_offset()
        place = self.next_place()
        show = self.doing("show")
        opened = [show, *[self.wiring.both(show, wire) for wire in self.worth_wires]]
        hidden = [self.code.address(name) for name in self.code.program.hidden()]
        lines = []
        for at, wires in enumerate(self.word_wires):
            lines.extend(self.cell_lines(wires, words[at], None if at in hidden else 0))
        lines.extend(self.cell_lines(self.worth_wires, worth, 0))
        lines.extend(self.cell_lines(self.offset_wires, offset, 0))
        lines.extend(self.cell_lines(self.place_wires, place, 0))
        opened = [self.name_of(wire) for wire in opened]
        lines.extend([gate_line(*gate) for gate in self.wiring.laid])
        lines.extend([f"open {wire}" for wire in opened])
        return line_text(lines)

    def cell_lines(self, wires, coming, first):
        """The lines of the cells of some wires, with their wires of the next beat."""
        return [cell_line(wire, first, self.name_of(source)) for wire, source in zip(wires, coming)]

    def name_of(self, wire):
        """The name of a wire, also where it never changes."""
        return self.wiring.named(wire, self.worth_wires[0])

    def decoded(self, root, wires, many):
        """For each number below many, what is root if the wires, from bit 0 on, have it, and else 0."""
        found = [root]
        for at in reversed(range(len(wires))):
            split = []
            for number, wire in enumerate(list(found)):
                if (2 * number + 1) << at < many:
                    upper = self.wiring.both(wire, wires[at])
                    split.extend([self.wiring.unlike(wire, upper), upper])
                else:
                    # The wires never have a number that is many or more.
                    split.append(wire)
            found = split
        return found

    def doing(self, *kinds):
        """Whether the instruction of this beat is of one of the kinds."""
        places = [at for at, row in enumerate(self.instructions) if row[0] in kinds]
        return self.wiring.unlike_all([self.at_place[at] for at in places])

    def word_selects(self, kinds, pointing):
        """For each word of the memory, whether an instruction of the kinds names it, or a pointing one points at it."""
        found = [0] * len(self.word_wires)
        roots = {name: 0 for name, _ in self.code.program.rows()}
        pointed = None
        for at, row in enumerate(self.instructions):
            if row[0] == "index":
                pointed = row[1]
            elif row[0] in kinds:
                address = self.code.address(row[1])
                found[address] = self.wiring.unlike(found[address], self.at_place[at])
            elif row[0] == pointing:
                roots[pointed] = self.wiring.unlike(roots[pointed], self.at_place[at])
        for name, length in self.code.program.rows():
            wires = self.offset_wires[:_bits_below(length)]
            for at, wire in enumerate(self.decoded(roots[name], wires, 1 << len(wires))):
                address = self.code.address(name, at)
                found[address] = self.wiring.unlike(found[address], wire)
        return found

    def operand(self):
        """The bits of the word that the instruction reads."""
        selects = self.word_selects(READING, "get")
        found = [0] * self.width
        for select, wires in zip(selects, self.word_wires):
            for at, wire in enumerate(wires):
                found[at] = self.wiring.unlike(found[at], self.wiring.both(select, wire))
        return found

    def next_words(self):
        """The bits of the words in the next beat."""
        selects = self.word_selects(("store",), "put")
        return [self.taken(select, wires, self.worth_wires) for select, wires in zip(selects, self.word_wires)]

    def next_offset(self):
        """The bits of P in the next beat."""
        return self.taken(self.doing("index"), self.offset_wires, self.worth_wires)

    def taken(self, select, wires, others):
        """The wires, or the other ones where select is 1."""
        found = []
        for wire, other in zip(wires, others):
            turned = self.wiring.both(select, self.wiring.unlike(wire, other))
            found.append(self.wiring.unlike(wire, turned))
        return found

    def next_worth(self, operand):
        """The bits of A in the next beat."""
        worth = self.worth_wires
        found = self.const_bits()
        self.add_bits(found, self.doing(*KEEPING, "flip"), worth)
        self.add_bits(found, self.doing("flip"), [1] * self.width)
        self.add_bits(found, self.doing("half"), [*worth[1:], 0])
        self.add_bits(found, self.doing("twice"), [0, *worth[:-1]])
        self.add_bits(found, self.doing("load", "get"), operand)
        unlike = [self.wiring.unlike(a, b) for a, b in zip(worth, operand)]
        # a or b is a xor b xor (a and b).
        self.add_bits(found, self.doing("xor", "or"), unlike)
        if self.doing("and", "or") != 0:
            self.add_bits(found, self.doing("and", "or"), [self.wiring.both(a, b) for a, b in zip(worth, operand)])
        if self.doing("eq") != 0:
            self.add_bits(found, self.doing("eq"), [self.wiring.none_of(unlike)])
        if self.doing("add", "sub", "less") != 0:
            sums, below = self.sums(operand)
            self.add_bits(found, self.doing("add", "sub"), sums)
            self.add_bits(found, self.doing("less"), [below])
        return found

    def const_bits(self):
        """The bits of the number of a const, 0 for other instructions."""
        found = [0] * self.width
        for at, row in enumerate(self.instructions):
            if row[0] == "const":
                self.add_bits(found, self.at_place[at], bits_of(row[1], self.width))
        return found

    def add_bits(self, found, select, wires):
        """Puts wires, where select is 1, into found bits; no two of the selects are ever 1 at once."""
        for at, wire in enumerate(wires):
            found[at] = self.wiring.unlike(found[at], self.wiring.both(select, wire))

    def sums(self, operand):
        """The pair (bits of the sum, or of the difference for sub and less; whether A is less)."""
        turned = self.doing("sub", "less")
        carry = turned
        found = []
        for a, b in zip(self.worth_wires, operand):
            addend = self.wiring.unlike(b, turned)
            found.append(self.wiring.unlike(self.wiring.unlike(a, addend), carry))
            changed = self.wiring.both(self.wiring.unlike(a, carry), self.wiring.unlike(addend, carry))
            carry = self.wiring.unlike(carry, changed)
        return found, self.wiring.flipped_bit(carry)

    def next_place(self):
        """The bits of the place in the next beat."""
        zero = self.wiring.none_of(self.worth_wires) if self.doing("jumpzero") != 0 else 0
        found = [0] * len(self.place_wires)
        for at, row in enumerate(self.instructions):
            goal = at + 1
            if row[0] == "jump":
                goal = row[1]
            elif row[0] == "stop":
                goal = at
            self.add_bits(found, self.at_place[at], bits_of(goal, len(found)))
            if row[0] == "jumpzero":
                # The bits in which the two goals differ are turned.
                jumping = self.wiring.both(self.at_place[at], zero)
                self.add_bits(found, jumping, bits_of(goal ^ row[1], len(found)))
        return found


def _named_wires(begin, many):
    return [f"{begin}{at}" for at in range(many)]


def _bits_below(length):
    return (length - 1).bit_length()


def _offset_bits(instructions):
    return max([_bits_below(row[2]) for row in instructions if row[0] == "index"], default=0)
