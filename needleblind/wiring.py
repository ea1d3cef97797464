"""Gates that are laid one by one for a circuit."""


class Wiring:
    """Lays gates, each one once.

    What its methods take and tell is the name of a wire, or the number 0 or 1 for a bit that never changes.
    """

    def __init__(self):
        self.laid = []
        self.known = {}

    def flipped_bit(self, a):
        """Not a."""
        if a in (0, 1):
            return 1 - a
        turned = self.gate("not", a, None)
        # So that what is turned twice is the wire itself.
        self.known["not", turned, None] = a
        return turned

    def unlike(self, a, b):
        """a xor b."""
        if a == b:
            return 0
        if a == 0:
            return b
        if b == 0:
            return a
        if a == 1:
            return self.flipped_bit(b)
        if b == 1:
            return self.flipped_bit(a)
        return self.gate("xor", min(a, b), max(a, b))

    def both(self, a, b):
        """a and b."""
        if a == 0 or b == 0:
            return 0
        if a == 1:
            return b
        if b == 1 or a == b:
            return a
        return self.gate("and", min(a, b), max(a, b))

    def unlike_all(self, wires):
        """The xor of all wires."""
        total = 0
        for wire in wires:
            total = self.unlike(total, wire)
        return total

    def none_of(self, wires):
        """Whether all wires are 0."""
        found = 1
        for wire in wires:
            found = self.both(found, self.flipped_bit(wire))
        return found

    def gate(self, kind, a, b):
        """The wire of a gate, which is laid if it does not stand there already."""
        key = (kind, a, b)
        if key not in self.known:
            name = f"g{len(self.laid)}"
            self.laid.append((name, kind, a, b))
            self.known[key] = name
        return self.known[key]

    def named(self, a, wire):
        """The name of a wire that has the bit a; wire is any wire at all."""
        if a == 0:
            return self.gate("xor", wire, wire)
        if a == 1:
            return self.gate("not", self.named(0, wire), None)
        return a
