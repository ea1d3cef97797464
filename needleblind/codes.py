"""Codes: the instructions of the machine, and the code of a program."""

from needleblind.errors import NoBit, NoWord, TooMany
from needleblind.expressions import PREFIXES
from needleblind.names import is_number, is_numeral, program_name

MOST_WORDS = 16
MOST_INSTRUCTIONS = 40
MOST_TEMP_DIGITS = 9
GREATEST_CONST = 63
ROW_LENGTHS = (2, 4, 8)
OPERATIONS = {"+": "add", "-": "sub", "&": "and", "|": "or", "^": "xor", "==": "eq", "<": "less"}
PREFIX_WORDS = {"~": "flip", "half": "half", "twice": "twice"}
# By the first item of an instruction, what its other items are.
FORMS = {
    "load": ("variable",),
    "store": ("variable",),
    "const": ("const",),
    "add": ("variable",),
    "sub": ("variable",),
    "and": ("variable",),
    "or": ("variable",),
    "xor": ("variable",),
    "eq": ("variable",),
    "less": ("variable",),
    "flip": (),
    "half": (),
    "twice": (),
    "index": ("row", "length"),
    "get": (),
    "put": (),
    "jump": ("place",),
    "jumpzero": ("place",),
    "show": (),
    "stop": (),
}


def is_instruction(value):
    """Whether any value is an instruction."""
    if not isinstance(value, tuple) or not value:
        return False
    if not isinstance(value[0], str) or value[0] not in FORMS:
        return False
    form = FORMS[value[0]]
    if len(value) != len(form) + 1:
        return False
    return all([_is_item(item, kind) for item, kind in zip(value[1:], form)])


def _is_item(item, kind):
    if kind == "variable":
        return program_name(item) or _is_temp(item)
    if kind == "row":
        return program_name(item)
    if kind == "length":
        return is_number(item, 2, 8) and item in ROW_LENGTHS
    most = GREATEST_CONST if kind == "const" else MOST_INSTRUCTIONS - 1
    return is_number(item, 0, most)


def _is_temp(item):
    if not isinstance(item, str) or not 2 <= len(item) <= MOST_TEMP_DIGITS + 1:
        return False
    return item[0] == "t" and is_numeral(item[1:])


def instruction_text(row):
    """The text of an instruction."""
    return " ".join([str(item) for item in row])


def read_instruction(text):
    """The instruction with a text, or None for any value that is none."""
    if not isinstance(text, str):
        return None
    row = tuple([_read_item(word) for word in text.split(" ")])
    return row if is_instruction(row) else None


def _read_item(word):
    # No number of an instruction has more than two digits, and int would refuse very long ones.
    return int(word) if is_numeral(word) and len(word) <= 2 else word


class Code:
    """The code of a program, which never changes."""

    def __init__(self, program):
        coder = Coder(program)
        self.program = program
        self.width = program.width
        self._rows = coder.instructions
        self._memory = _memory_of(program, coder.temps)
        self._places = _places_in(self._memory)
        self._lengths = {name: length for name, length in program.rows()}
        if len(self._memory) > MOST_WORDS:
            raise TooMany("words", len(self._memory))
        if len(self._rows) > MOST_INSTRUCTIONS:
            raise TooMany("instructions", len(self._rows))

    def __eq__(self, other):
        return isinstance(other, Code) and self.program == other.program

    def __len__(self):
        return len(self._rows)

    def __str__(self):
        return str(self.text())

    def __repr__(self):
        return f"Code({len(self._rows)} instructions)"

    def rows(self):
        """The list of the instructions."""
        return list(self._rows)

    def text(self):
        """The texts of the instructions, each with a line feed."""
        return "".join([f"{instruction_text(row)}\n" for row in self._rows])

    def memory(self):
        """The pairs (name, index) of the memory, by address."""
        return list(self._memory)

    def address(self, name, at=0):
        """The address of a word or temp, or of the item at of a row."""
        if not isinstance(name, str) or name not in self._places:
            raise NoWord(name)
        if name not in self._lengths:
            return self._places[name]
        if not is_number(at, 0, self._lengths[name] - 1):
            raise NoBit(at)
        return self._places[name] + at


def _memory_of(program, temps):
    memory = [(name, 0) for name in program.words()]
    for name, length in program.rows():
        memory.extend([(name, at) for at in range(length)])
    memory.extend([(f"t{at}", 0) for at in range(temps)])
    return memory


def _places_in(memory):
    # The address of each name, of a row that of its first item.
    places = {}
    for address, (name, at) in enumerate(memory):
        if at == 0:
            places[name] = address
    return places


class Coder:
    """Lays the instructions of a program."""

    def __init__(self, program):
        self.lengths = {name: length for name, length in program.rows()}
        self.instructions = []
        self.temps = 0
        self.lay_deeds(program.deeds())
        self.instructions.append(("stop",))

    def lay_deeds(self, deeds):
        """Lays deeds one behind the other."""
        for deed in deeds:
            if deed[0] == "if":
                self.lay_if(deed)
            elif deed[0] == "while":
                self.lay_while(deed)
            else:
                self.lay_plain(deed)

    def lay_plain(self, deed):
        """Lays a set, put, show or stop."""
        if deed[0] == "set":
            self.lay_expression(deed[2], 0)
            self.instructions.append(("store", deed[1]))
        elif deed[0] == "put":
            self.lay_expression(deed[3], 0)
            self.store_temp(0)
            self.lay_expression(deed[2], 1)
            self.lay_index(deed[1])
            self.instructions.append(("load", "t0"))
            self.instructions.append(("put",))
        elif deed[0] == "show":
            self.lay_expression(deed[1], 0)
            self.instructions.append(("show",))
        else:
            self.instructions.append(("stop",))

    def lay_if(self, deed):
        """Lays an if with its parts."""
        self.lay_expression(deed[1], 0)
        test = self.kept_place()
        self.lay_deeds(deed[2])
        if deed[3] is None:
            self.jump_here("jumpzero", test)
            return
        leap = self.kept_place()
        self.jump_here("jumpzero", test)
        self.lay_deeds(deed[3])
        self.jump_here("jump", leap)

    def lay_while(self, deed):
        """Lays a while with its body."""
        start = len(self.instructions)
        self.lay_expression(deed[1], 0)
        test = self.kept_place()
        self.lay_deeds(deed[2])
        self.instructions.append(("jump", start))
        self.jump_here("jumpzero", test)

    def kept_place(self):
        """Keeps a place for a jump whose goal is not known yet."""
        self.instructions.append(("stop",))
        return len(self.instructions) - 1

    def jump_here(self, kind, at):
        """Lays the jump, for which the place at was kept, to the next instruction."""
        self.instructions[at] = (kind, len(self.instructions))

    def lay_expression(self, tree, temp):
        """Lays what leaves the worth of an expression in A, with temps from a number on."""
        kind = tree[0]
        if kind == "number":
            self.instructions.append(("const", tree[1]))
        elif kind == "word":
            self.instructions.append(("load", tree[1]))
        elif kind == "at":
            self.lay_expression(tree[2], temp)
            self.lay_index(tree[1])
            self.instructions.append(("get",))
        elif kind in PREFIXES:
            self.lay_expression(tree[1], temp)
            self.instructions.append((PREFIX_WORDS[kind],))
        else:
            self.lay_sign(tree, temp)

    def lay_sign(self, tree, temp):
        """Lays a sign with two operands."""
        operation = OPERATIONS[tree[0]]
        if tree[2][0] == "word":
            self.lay_expression(tree[1], temp)
            self.instructions.append((operation, tree[2][1]))
            return
        self.lay_expression(tree[2], temp)
        self.store_temp(temp)
        self.lay_expression(tree[1], temp + 1)
        self.instructions.append((operation, f"t{temp}"))

    def store_temp(self, temp):
        """Lays a store to a temp, which is in the memory then."""
        self.temps = max(self.temps, temp + 1)
        self.instructions.append(("store", f"t{temp}"))

    def lay_index(self, name):
        """Lays the index instruction of a row."""
        self.instructions.append(("index", name, self.lengths[name]))
