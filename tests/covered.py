"""Covered runs, reckoned from the texts of circuits and pieces alone, to compare with."""

import functools
import itertools
import random

from needleblind.house import house_piece, ring_piece
from needleblind.judging import judge_piece
from needleblind.pieces import Piece
from needleblind.rules import ByParity, Fixed
from support import leaky_piece, piece_bits, random_bits, random_circuit, sources

GATES = ("xor", "and", "not")


def sparse_product(hosts):
    """A product with 4 parts, of whose pairs some share no coin: what they multiply goes with that of another pair."""
    pairs = list(itertools.combinations(range(4), 2))
    own = [pair for pair in pairs if pair not in hosts]
    numbers = range(4)
    lines = ["piece product 4"] + [f"coin z{i}{j}" for i, j in own[::-1]]
    lines += [f"p{i}{j} = a{i} and b{j}" for i in numbers for j in numbers]
    ends = {}
    for i, j in own:
        lines += [f"h{i}{j} = z{i}{j} xor p{i}{j}", f"k{j}{i} = h{i}{j} xor p{j}{i}"]
        ends[i, j] = f"k{j}{i}"
    for (i, j), host in hosts.items():
        lines += [f"h{i}{j} = {ends[host]} xor p{i}{j}", f"k{j}{i} = h{i}{j} xor p{j}{i}"]
        ends[host] = f"k{j}{i}"
    outs = []
    for i in numbers:
        last = f"p{i}{i}"
        for j in numbers:
            if tuple(sorted((i, j))) in own:
                lines.append(f"s{i}{j} = {last} xor {f'z{i}{j}' if i < j else ends[j, i]}")
                last = f"s{i}{j}"
        outs.append(last)
    return "".join(f"{line}\n" for line in [*lines, f"out {' '.join(outs)}"])


def bent_ring():
    """The ring with 4 parts, with idle gates that multiply parts and coins."""
    lines = ring_piece(4).text().splitlines()
    idle = [f"x{i} = a{i} and r{coin}" for i, coin in enumerate(("01", "12", "23", "03"))]
    idle += ["y0 = s01 and r03", "y1 = r12 and r23", "y2 = s21 and a2", "y3 = a3 and s32"]
    return "".join(f"{line}\n" for line in lines[:-1] + idle + lines[-1:])


@functools.cache
def taken(name):
    """A piece with 4 parts that is taken at t = 1, judged once: of the house, with fewer coins, or with idle gates."""
    texts = {"product": house_piece("product", 4).text(), "refresh": house_piece("refresh", 4).text(),
             "ring": ring_piece(4).text(), "product4": sparse_product({(0, 1): (0, 2), (2, 3): (1, 3)}),
             "product5": sparse_product({(1, 2): (0, 3)}), "bent": bent_ring()}
    if name in texts:
        return judge_piece(Piece(texts[name]))
    kind, _, seed = name.partition("+")
    for source in sources(1000)[int(seed):]:
        judged = judge_piece(Piece(leaky_piece(source, texts[kind], 2)))
        if judged.is_taken():
            return judged
    return None


def lines_of(text):
    """The words of the lines of a circuit, but for those that open."""
    return [line.split() for line in text.splitlines() if not line.startswith("open ")]


def wire_of(line):
    return line[0] if line[1] == "=" else line[1]


def gate_kind(line):
    """xor, and or not for a gate, or the first word of another line."""
    return [word for word in line if word in GATES][0] if line[1] == "=" else line[0]


class Covering:
    """A covered run with a tape of any bits, beat by beat; what it tells of a beat is kept in lists."""

    def __init__(self, text, first, later, tape, n, refresh=True, laid=None):
        self.text, self.later, self.n, self.refresh = text, later, n, refresh
        self.lines = lines_of(text)
        self.laid = laid or {}
        self.tape, self.at = list(tape), 0
        # For each beat: the bit of each look, in order; the parts; where the coins of each wire begin; the used bits.
        self.looks, self.parts, self.places, self.used = [], [], [], []
        self.inputs = []
        self.door, first = {}, list(first)
        self.door_places = {}
        for line in self.lines:
            if gate_kind(line) == "secret":
                self.door_places[line[1]] = self.at
                self.door[line[1]] = self.split(first.pop(0))
            elif gate_kind(line) == "cell":
                self.door[line[1]] = [int(line[2])] + [0] * (n - 1)

    def coins(self, many):
        found = self.tape[self.at:self.at + many]
        if len(found) < many:
            raise IndexError("the tape ends")
        self.at += many
        return found

    def split(self, bit):
        coins = self.coins(self.n - 1)
        return coins + [(bit + sum(coins)) % 2]

    def pairs(self):
        return list(itertools.combinations(range(self.n), 2))

    def refreshed(self, wire, old):
        """The new parts of a cell and its looks but for part."""
        looks = {}
        if not self.refresh:
            return old, looks
        if wire in self.laid:
            return self.by_piece(wire, old)
        coin = {}
        for pair, bit in zip(self.pairs(), self.coins(len(self.pairs()))):
            coin[frozenset(pair)] = bit
            looks[f"turn {wire} {pair[0]} {pair[1]}"] = bit
        new = []
        for i in range(self.n):
            for j in range(self.n):
                if j != i:
                    added = [coin[frozenset((i, m))] for m in range(j + 1) if m != i]
                    looks[f"row {wire} {i} {j}"] = (old[i] + sum(added)) % 2
            new.append((old[i] + sum(bit for pair, bit in coin.items() if i in pair)) % 2)
        return new, looks

    def multiplied(self, wire, a, b):
        """The parts of an and gate and its looks but for part."""
        if wire in self.laid:
            return self.by_piece(wire, a + b)
        z, half = {}, {}
        for pair, bit in zip(self.pairs(), self.coins(len(self.pairs()))):
            z[pair] = bit
            half[pair] = (bit + a[pair[0]] * b[pair[1]]) % 2
            z[pair[1], pair[0]] = (half[pair] + a[pair[1]] * b[pair[0]]) % 2
        numbers = range(self.n)
        looks = {f"coin {wire} {i} {j}": z[i, j] for i, j in self.pairs()}
        looks.update({f"prod {wire} {i} {j}": a[i] * b[j] for i in numbers for j in numbers if i != j})
        looks.update({f"half {wire} {i} {j}": half[i, j] for i, j in self.pairs()})
        looks.update({f"back {wire} {j} {i}": z[j, i] for j in numbers for i in numbers if i < j})
        for i in numbers:
            for j in numbers:
                added = [] if i == j else [z[i, m] for m in range(j + 1) if m != i]
                looks[f"sum {wire} {i} {j}"] = (a[i] * b[i] + sum(added)) % 2
        return [(a[i] * b[i] + sum(z[i, j] for j in numbers if j != i)) % 2 for i in numbers], looks

    def by_piece(self, wire, parts):
        text = self.laid[wire]
        lines = [line.split() for line in text.splitlines()][1:]
        coins = self.coins(sum(line[0] == "coin" and line[1] != "=" for line in lines))
        bits = piece_bits(text, parts, coins)
        looks = {f"line {wire} {wire_of(line)}": bits[wire_of(line)] for line in lines[:-1]}
        return [bits[name] for name in lines[-1][1:]], looks

    def step(self):
        at = len(self.looks)
        parts, looks, places, inputs = {}, {}, {}, {}
        row = list(self.later[at]) if at < len(self.later) else []
        for line in self.lines:
            wire = wire_of(line)
            if gate_kind(line) in ("secret", "cell"):
                places[wire] = self.at
                parts[wire], looks[wire] = self.door[wire], {}
                if at > 0:
                    inputs[wire] = list(self.parts[-1][line[-1]])
                    parts[wire], looks[wire] = self.refreshed(wire, inputs[wire])
        for line in self.lines:
            if gate_kind(line) == "in":
                places[line[1]] = self.at
                parts[line[1]], looks[line[1]] = self.split(row.pop(0)), {}
        for line in self.lines:
            if line[1] != "=":
                continue
            wire, kind = line[0], gate_kind(line)
            reads = [parts[word] for word in line[2:] if word not in GATES]
            places[wire], looks[wire] = self.at, {}
            if kind == "not":
                parts[wire] = [1 - reads[0][0]] + reads[0][1:]
            elif kind == "xor":
                parts[wire] = [(x + y) % 2 for x, y in zip(*reads)]
            else:
                inputs[wire] = reads[0] + reads[1]
                parts[wire], looks[wire] = self.multiplied(wire, *reads)
        told = {}
        for line in self.lines:
            wire = wire_of(line)
            told.update(looks[wire])
            told.update({f"part {wire} {i}": bit for i, bit in enumerate(parts[wire])})
        self.looks.append(told)
        self.parts.append({wire: tuple(bits) for wire, bits in parts.items()})
        self.inputs.append({wire: tuple(bits) for wire, bits in inputs.items()})
        self.places.append(places)
        self.used.append(self.at)
        return told

    def go(self, beats):
        for _ in range(beats):
            self.step()
        return self

    def row(self):
        """The opened row of the last beat."""
        opened = [line.split()[1] for line in self.text.splitlines() if line.startswith("open ")]
        return tuple(sum(self.parts[-1][wire]) % 2 for wire in opened)


def needed(text, n, beats, refresh=True, laid=None):
    """How many bits of a tape a run uses."""
    lines = lines_of(text)
    many = {kind: sum(gate_kind(line) == kind for line in lines) for kind in ("secret", "in")}
    zeros = [0] * 20000
    run = Covering(text, [0] * many["secret"], [[0] * many["in"]] * beats, zeros, n, refresh, laid).go(beats)
    return run.at


class Case:
    """A random circuit with secrets and a tape for so many beats."""

    def __init__(self, source, n=4, beats=3, refresh=True, spare=0, laid=0.0, **named):
        many = {"secrets": source.randint(0, 2), "cells": source.randint(0, 2), "ins": source.randint(0, 2),
                "gates": source.randint(0, 7), "opens": source.randint(0, 3)}
        many.update(named)
        if not many["secrets"] + many["cells"] + many["ins"]:
            many["secrets"] = 1
        self.many, self.n, self.beats, self.refresh = many, n, beats, refresh
        self.text = random_circuit(source, **many)
        self.pieces = self.random_pieces(source, laid)
        self.laid = {name: piece.piece.text() for name, piece in self.pieces.items()}
        self.first, self.later = self.secrets(source)
        self.tape = random_bits(source, needed(self.text, n, beats, refresh, self.laid) + spare)

    def random_pieces(self, source, share):
        found = {}
        for line in lines_of(self.text):
            kind = gate_kind(line)
            if kind in ("and", "secret", "cell") and source.random() < share:
                names = ("ring", "refresh", "bent", "ring+0", "refresh+0")
                if kind == "and":
                    names = ("product", "product+0", "product4", "product5")
                found[wire_of(line)] = taken(source.choice(names))
        return found

    def secrets(self, source):
        return (random_bits(source, self.many["secrets"]),
                [random_bits(source, self.many["ins"]) for _ in range(self.beats)])

    def covering(self, first=None, later=None, tape=None):
        """The run, reckoned from the texts."""
        run = Covering(self.text, self.first if first is None else first, self.later if later is None else later,
                       self.tape if tape is None else tape, self.n, self.refresh, self.laid)
        return run.go(self.beats)


class Picking:
    """A rule that looks by chance, but the same whenever it is asked with the same arguments."""

    def __init__(self, seed, rows, t):
        # By beat, the looks that there are.
        self.seed, self.rows, self.t = seed, rows, t

    def __call__(self, beat, readings, opened):
        if beat >= len(self.rows):
            return []
        source = random.Random(f"{self.seed} {beat} {readings} {opened}")
        looks = self.rows[beat]
        return source.sample(looks, min(len(looks), source.randint(0, self.t)))


def random_rule(source, case, t):
    """A rule of any kind for a random case, whose looks are those of its beats."""
    rows = [list(looks) for looks in case.covering().looks]

    def told():
        return [source.sample(looks, min(len(looks), source.randint(0, t))) for looks in rows]

    kind = source.randrange(5)
    if kind == 0:
        return Fixed(told())
    if kind == 1:
        return ByParity(list(zip(told(), told())))
    if kind == 2:
        fixed = told()
        return lambda beat, readings, opened: tuple(fixed[beat]) * 2 if beat < len(fixed) else ()
    return Picking(source.random(), rows, t)


def other_secrets(source, case, share=0.5):
    """Other secrets for a case, of which some bits are turned."""
    turn = [[bit ^ (source.random() < share) for bit in row] for row in [case.first, *case.later]]
    return turn[0], turn[1:]
