import itertools
import random
import unittest

from covered import Case, Picking, gate_kind, lines_of, other_secrets, random_rule, taken, wire_of
from judged import rows_of
from needleblind.circuits import Circuit
from needleblind.errors import BadLook, BadNumber, BadSecrets, NotTaken, Parted, TapeEnds, TooMany
from needleblind.plain import Secrets, first_parting
from needleblind.rules import Fixed, Rule
from needleblind.runs import Run
from needleblind.tapes import Tape, bits_needed
from needleblind.twins import Twin, alike, twin
from support import ANY_VALUES, piece_bits, raised, random_bits, sources, wire_bits

TEXT = "secret a from p\ncell b 1 from a\nin x\np = a and x\nq = p xor b\n"
OPENED = "secret a from p\nsecret s from s\ncell b 1 from a\nin x\np = a and x\nopen p\n"


def touched(looks, pieces):
    """I and J of the looks of a beat."""
    found, refreshed, lots = set(), set(), {}
    for look in looks:
        kind, wire, *digits = look.split()
        if kind == "line":
            lots.setdefault(wire, []).append(digits[0])
            continue
        numbers = {int(digit) for digit in (digits if kind in ("prod", "half") else digits[:1])}
        found |= numbers
        refreshed |= numbers if kind in ("turn", "row") else set()
    for wire, names in lots.items():
        lot = tuple(line[0] for line in pieces[wire].piece.lines() if line[0] in names)
        found |= set(pieces[wire].numbers(lot))
        refreshed |= set(pieces[wire].numbers(lot)) if pieces[wire].piece.kind == "refresh" else set()
    return found, refreshed


def kept(looked, pieces):
    """k_b for each beat."""
    told = [touched(looks, pieces) for looks in looked] + [(set(), set())]
    return tuple(min(set(range(99)) - told[at][0] - told[at + 1][1]) for at in range(len(looked))) or (0,)


def like_ranked(text, parts, other, coins, lot, without):
    """The row of coins of like rank, by a listing of all rows."""
    outs = text.splitlines()[-1].split()[1:]
    wires = [*lot, *[wire for at, wire in enumerate(outs) if at != without]]
    rows = rows_of(len(coins))
    readings = {}
    for row in (tuple(parts), tuple(other)):
        readings[row] = []
        for coin_row in rows:
            bits = piece_bits(text, row, coin_row)
            readings[row].append(tuple(bits[wire] for wire in wires))
    reading = readings[tuple(parts)][rows.index(tuple(coins))]
    like = [row for row, told in zip(rows, readings[tuple(parts)]) if told == reading]
    others = [row for row, told in zip(rows, readings[tuple(other)]) if told == reading]
    return others[like.index(tuple(coins))]


def turned_positions(case, other, looked, ks):
    """The positions that the twin turns, by the four steps and by like rank."""
    run, n = case.covering(), case.n
    beats = case.beats
    unlike = [{wire: bits[wire] ^ others[wire] for wire in bits}
              for bits, others in zip(wire_bits(case.text, case.first, case.later, beats),
                                      wire_bits(case.text, *other, beats))]
    pairs = list(itertools.combinations(range(n), 2))
    turned = set()
    for at, (wire, place) in enumerate(run.door_places.items()):
        if case.first[at] != other[0][at] and ks[0] < n - 1:
            turned.add(place + ks[0])
    for beat, line in itertools.product(range(beats), lines_of(case.text)):
        wire, kind, k = wire_of(line), gate_kind(line), ks[beat]
        place = run.places[beat][wire]
        lot = [name for look in looked[beat] if look.startswith(f"line {wire} ") for name in look.split()[2:]]
        if kind == "in" and unlike[beat][wire] and k < n - 1:
            turned.add(place + k)
        if kind in ("secret", "cell") and beat > 0 and wire in case.laid:
            before, old = ks[beat - 1], list(run.inputs[beat][wire])
            new = list(old)
            new[before] ^= unlike[beat][wire]
            turned |= by_piece(case, wire, place, old, new, lot, k)
        elif kind in ("secret", "cell") and beat > 0 and unlike[beat][wire] and ks[beat - 1] != k:
            turned.add(place + pairs.index(tuple(sorted((ks[beat - 1], k)))))
        if kind == "and":
            a, b = line[2], line[4]
            da, db = unlike[beat][a], unlike[beat][b]
            row = run.inputs[beat][wire]
            if wire in case.laid:
                new = list(row)
                new[k] ^= da
                new[n + k] ^= db
                turned |= by_piece(case, wire, place, row, new, lot, k)
                continue
            for j in range(k + 1, n):
                if da * row[n + j] != row[j] * db:
                    turned.add(place + pairs.index((k, j)))
    return tuple(sorted(turned))


def by_piece(case, wire, place, old, new, lot, without):
    text = case.laid[wire]
    names = [line[0] for line in case.pieces[wire].piece.lines()]
    coins = case.tape[place:place + text.count("\ncoin ")]
    found = like_ranked(text, old, new, coins, sorted(lot, key=names.index), without)
    return {place + at for at in range(len(coins)) if coins[at] != found[at]}


class Cases(unittest.TestCase):
    """A case with other secrets, and what the document promises of its twin."""

    def twin(self, case, other, rule, t, **named):
        one = Secrets(case.first, case.later)
        return twin(Circuit(case.text), one, Secrets(*other), Tape(case.tape), t=t, rule=rule, beats=case.beats,
                    pieces=case.pieces or None, **named)

    def runs(self, case, rule, t, secrets, tape):
        run = Run(Circuit(case.text), Secrets(*secrets), tape, t=t, rule=rule, pieces=case.pieces)
        parts = []
        for _ in range(case.beats):
            run.step()
            parts.append({wire: run.parts(wire) for wire in Circuit(case.text).wires()})
        return run, parts

    def check(self, case, other, rule, t):
        """The twin itself by an independent reckoning, and what it shows."""
        told = self.twin(case, other, rule, t)
        self.assertIs(type(told), Twin)
        run, parts = self.runs(case, rule, t, (case.first, case.later), Tape(case.tape))
        ks = kept(run.looked, case.pieces)
        self.assertEqual((told.ks, type(told.ks)), (ks, tuple))
        turned = turned_positions(case, other, run.looked, ks)
        self.assertEqual((told.turned, type(told.turned)), (turned, tuple))
        self.assertIs(type(told.tape), Tape)
        self.assertEqual(told.tape, Tape(case.tape).flipped(turned))
        self.shows_the_same(case, other, rule, t, told, run, parts)
        return told

    def shows_the_same(self, case, other, rule, t, told, run, parts):
        other_run, other_parts = self.runs(case, rule, t, other, told.tape)
        self.assertEqual((run.looked, run.readings, run.opened),
                         (other_run.looked, other_run.readings, other_run.opened))
        for at in range(case.beats):
            for wire, row in parts[at].items():
                unlike = sum(row) % 2 ^ sum(other_parts[at][wire]) % 2
                expected = tuple(bit ^ (unlike if i == told.ks[at] else 0) for i, bit in enumerate(row))
                self.assertEqual(other_parts[at][wire], expected)
        circuit, one, two = Circuit(case.text), Secrets(case.first, case.later), Secrets(*other)
        back = twin(circuit, two, one, told.tape, t=t, rule=rule, beats=case.beats, pieces=case.pieces)
        self.assertEqual((back.tape, back.ks, back.turned), (Tape(case.tape), told.ks, told.turned))
        self.assertIs(alike(circuit, one, two, Tape(case.tape), told.tape, t=t, rule=rule, beats=case.beats,
                            pieces=case.pieces), True)


class Twins(Cases):
    def each_case(self, many, t, **named):
        """Random cases with secrets that do not part; in half of the cases nothing is opened."""
        done = 0
        for source in sources(many * 4):
            if done == many:
                return
            case = Case(source, n=3 * t + 1, **{"beats": source.randint(0, 5), "spare": source.choice((0, 0, 4)),
                                                "opens": source.choice((0, 0, 1, 2)), **named})
            other = other_secrets(source, case, source.choice((0.2, 0.5, 1.0)))
            if first_parting(Circuit(case.text), Secrets(case.first, case.later), Secrets(*other), case.beats) is None:
                done += 1
                yield source, case, other
        self.assertEqual(done, many)

    def test_beside_the_four_steps(self):
        for t, many in ((1, 200), (2, 60), (3, 30)):
            turned = [self.check(case, other, random_rule(source, case, t), t)
                      for source, case, other in self.each_case(many, t)]
            self.assertGreater(sum(bool(told.turned) for told in turned), many // 3)
            self.assertGreater(len({k for told in turned for k in told.ks}), t + 1)

    def test_the_greatest_number(self):
        """With t products and then t turns all numbers but the last one are touched."""
        for t in (1, 2, 3):
            n = 3 * t + 1
            products = [f"prod p {2 * at} {2 * at + 1}" for at in range(t)]
            turns = [f"turn a {2 * t + at} {n - 1}" for at in range(t)]
            for source in sources(10):
                case = Case(source, n=n, beats=4, secrets=1, cells=1, ins=1, gates=2, opens=0)
                case.text = TEXT
                case.first, case.later = (1,), [(1,), (0,), (1,), (1,)]
                case.tape = random_bits(source, bits_needed(Circuit(TEXT), 4, parts=n))
                for rows, ks in (([products, turns] * 2, (n - 1, 0, n - 1, 0)),
                                 ([[], turns, products, turns], (0, 0, n - 1, 0)),
                                 ([products, [], products, products], (2 * t, 0, 2 * t, 2 * t)),
                                 ([products, turns, turns, []], (n - 1, 0, 0, 0))):
                    told = self.check(case, ((0,), [(0,), (1,), (1,), (0,)]), Fixed(rows), t)
                    self.assertEqual(told.ks, ks)

    def test_laid_circuits(self):
        for named, many in (({"laid": 1.0}, 40), ({"laid": 0.5}, 40), ({"laid": 1.0, "cells": 2, "secrets": 2}, 20)):
            for source, case, other in self.each_case(many, 1, gates=5, **named):
                self.check(case, other, random_rule(source, case, 1), 1)

    def test_looks_at_the_lines_of_pieces(self):
        lines = {}
        for source, case, other in self.each_case(60, 1, laid=1.0, secrets=2, gates=5, beats=3, ins=1):
            rows = [[look for look in looks if look.startswith("line")] or list(looks) for looks in case.covering().looks]
            rule = Picking(source.random(), rows, 1)
            self.check(case, other, rule, 1)
            run = self.runs(case, rule, 1, (case.first, case.later), Tape(case.tape))[0]
            lines.update({look.split()[2]: True for looks in run.looked for look in looks if look.startswith("line")})
        self.assertGreater(len(lines), 15)

    def test_every_look(self):
        """Each look of each beat of a circuit, by itself and beside one before and behind it."""
        for laid in ({}, {"p": taken("product"), "b": taken("ring")}, {"a": taken("refresh"), "p": taken("product4")}):
            source = random.Random(5)
            case = Case(source, beats=3, secrets=1, cells=1, ins=1, gates=2, opens=0)
            case.text, case.pieces = TEXT, laid
            case.laid = {name: piece.piece.text() for name, piece in laid.items()}
            case.first, case.later = (1,), [(1,), (0,), (1,)]
            case.tape = random_bits(source, bits_needed(Circuit(TEXT), 3, pieces=laid))
            looks = [list(told) for told in case.covering().looks]
            for at in range(3):
                for look in looks[at]:
                    rows = [[source.choice(told)] for told in looks]
                    rows[at] = [look]
                    self.check(case, ((0,), [(1,), (1,), (0,)]), Fixed(rows), 1)

    def test_refreshes_that_multiply(self):
        """Which row of coins is of like rank hangs on the parts here, and on all looks of the beat."""
        text = "secret a from b\nsecret b from a\n"
        case = Case(random.Random(1), beats=3, secrets=2, cells=0, ins=0, gates=0, opens=0)
        case.text, case.pieces = text, {"a": taken("bent"), "b": taken("bent")}
        case.laid = {name: piece.piece.text() for name, piece in case.pieces.items()}
        many = bits_needed(Circuit(text), 3, pieces=case.pieces)
        for source in sources(25):
            case.first, case.tape = random_bits(source, 2), random_bits(source, many)
            looks = [list(told) for told in case.covering().looks]
            for name in ("x0", "x1", "x2", "x3", "y0", "y1", "y2", "y3"):
                rows = [[source.choice(told)] for told in looks]
                rows[source.choice((1, 2))] = [f"line {source.choice('ab')} {name}"]
                self.check(case, (random_bits(source, 2), case.later), Fixed(rows), 1)

    def test_no_beats(self):
        for source in sources(30):
            case = Case(source, beats=0, spare=3, laid=0.3)
            other = other_secrets(source, case)
            told = self.check(case, other, Rule(), 1)
            self.assertEqual((told.ks, told.tape.bits()[-3:]), ((0,), case.tape[-3:]))
            turned = [at * 3 for at in range(case.many["secrets"]) if case.first[at] != other[0][at]]
            self.assertEqual(told.turned, tuple(turned))

    def test_like_secrets_turn_nothing(self):
        for source, case, other in self.each_case(20, 1, laid=0.3):
            told = self.check(case, (case.first, case.later), random_rule(source, case, 1), 1)
            self.assertEqual((told.turned, told.tape), ((), Tape(case.tape)))

    def test_three_secrets(self):
        for t, laid in ((1, 0.0), (1, 0.6), (2, 0.0)):
            for source, case, other in self.each_case(20, t, opens=0, laid=laid):
                rule = random_rule(source, case, t)
                third = other_secrets(source, case)
                circuit = Circuit(case.text)
                named = {"t": t, "rule": rule, "beats": case.beats, "pieces": case.pieces}
                there = self.twin(case, other, rule, t)
                on = twin(circuit, Secrets(*other), Secrets(*third), there.tape, **named)
                self.assertEqual(on.tape, self.twin(case, third, rule, t).tape)
                self.assertEqual(on.ks, there.ks)

    def test_later_rows_behind_the_beats(self):
        case = Case(sources(1)[0], beats=2, secrets=1, ins=1, opens=0)
        more, others = case.later + [(1,)], case.later + [(0,), (1,)]
        rule = Fixed([["part s0 1"]])
        told = [twin(Circuit(case.text), Secrets(case.first, later), Secrets((1 - case.first[0],), other), Tape(case.tape),
                     rule=rule, beats=2) for later, other in ((case.later, case.later), (more, others))]
        self.assertEqual(told[0].tape, told[1].tape)

    def test_each_row_of_readings_comes_from_equally_many_tapes(self):
        circuit = Circuit("secret a from a\nb = a and a\n")
        for rule in (Fixed([["prod b 0 1"]]), Fixed([["sum b 3 0"]]), Picking(3, [["part a 3", "back b 3 1"]], 1)):
            found = []
            for bit in (0, 1):
                runs = [Run(circuit, Secrets([bit]), Tape(row), rule=rule) for row in itertools.product((0, 1), repeat=9)]
                found.append(sorted(run.step() for run in runs))
            self.assertEqual(found[0], found[1])

    def test_examples(self):
        circuit = Circuit("secret a from a\nsecret b from b\nc = a and b\n")
        told = twin(circuit, Secrets([1, 1]), Secrets([0, 1]), Tape.read("101011110100"),
                    rule=Fixed([["prod c 0 1"]]), beats=1)
        self.assertEqual([told.tape.text(), told.ks, told.turned], ["100011110101", (2,), (2, 11)])
        circuit = Circuit("secret a from a\n")
        rule = Fixed([["part a 1"], ["turn a 0 2"]])
        told = twin(circuit, Secrets([1]), Secrets([0]), Tape.read("010110100"), rule=rule, beats=2)
        self.assertEqual([told.tape.text(), told.ks, told.turned], ["011110000", (2, 1), (2, 6)])
        told = twin(circuit=circuit, one=Secrets([1]), other=Secrets([0]), tape=Tape.read("0101101001"), t=1, rule=rule,
                    beats=2, pieces=None)
        self.assertEqual(told.tape.text(), "0111100001")


class Parting(unittest.TestCase):
    def test_first_beat_in_which_they_part(self):
        circuit = Circuit("in x\ncell a 0 from x\ncell b 0 from a\ncell c 0 from b\nsecret s from s\nopen c\n")
        one = Secrets([0], [[0]] * 8)
        tape = Tape([0] * bits_needed(circuit, 8))
        for at, beats in itertools.product(range(8), range(9)):
            other = Secrets([1], [[int(beat == at)] for beat in range(8)])
            named = {"rule": Rule(), "beats": beats}
            if beats > at + 3:
                self.assertEqual(raised(self, Parted, twin, circuit, one, other, tape, **named).at, at + 3)
                self.assertIs(alike(circuit, one, other, tape, tape, **named), False)
            else:
                told = twin(circuit, one, other, tape, **named)
                self.assertEqual(len(told.ks), max(beats, 1))
                self.assertIs(alike(circuit, one, other, tape, told.tape, **named), True)

    def test_worked_call(self):
        circuit = Circuit("secret a from a\nopen a\n")
        error = raised(self, Parted, twin, circuit, Secrets([1]), Secrets([0]), Tape.read("010"), rule=Fixed([]), beats=1)
        self.assertEqual(error.at, 0)
        self.assertEqual(twin(circuit, Secrets([1]), Secrets([0]), Tape.read("010"), rule=Fixed([]), beats=0).turned, (0,))


class Alike(Cases):
    def test_tapes_with_a_bit_turned(self):
        found = {}
        for source in sources(60):
            case = Case(source, beats=source.randint(1, 3), laid=source.choice((0.0, 0.5)))
            if not case.tape:
                continue
            rule = random_rule(source, case, 1)
            at = source.randrange(len(case.tape))
            other = other_secrets(source, case, source.choice((0.0, 0.3)))
            one, tapes = (case.first, case.later), [Tape(case.tape), Tape(case.tape).flipped([at])]
            runs = [self.runs(case, rule, 1, secrets, tape)[0] for secrets, tape in zip((one, other), tapes)]
            expected = all(getattr(runs[0], name) == getattr(runs[1], name) for name in ("looked", "readings", "opened"))
            told = alike(Circuit(case.text), Secrets(*one), Secrets(*other), *tapes, rule=rule, beats=case.beats,
                         pieces=case.pieces)
            self.assertIs(told, expected)
            found[told] = True
        self.assertEqual(len(found), 2)

    def test_each_thing_counts(self):
        circuit = Circuit("secret a from a\nopen a\n")
        zero, one = Secrets([0]), Secrets([1])
        # Other readings with the same opened rows; other opened rows with the same readings.
        for rule, tapes, both, expected in (
                (Fixed([["part a 0"]]), ("000", "100"), (zero, zero), False),
                (Fixed([["part a 1"]]), ("000", "100"), (zero, zero), True),
                (Fixed([["part a 0"]]), ("000", "000"), (zero, one), False),
                (Fixed([["part a 0"]]), ("000", "000"), (zero, zero), True)):
            self.assertIs(alike(circuit, *both, *map(Tape.read, tapes), rule=rule, beats=1), expected)
        # Other looks that read the same.
        quiet = Circuit("secret a from a\nsecret b from b\nopen b\n")
        rule = lambda beat, readings, opened: ["part a 1" if beat and opened[0] == (1,) else "part a 0"]
        tapes = [Tape([0] * 20)] * 2
        self.assertIs(alike(quiet, Secrets([0, 0]), Secrets([0, 0]), *tapes, rule=rule, beats=2), True)
        self.assertIs(alike(circuit=quiet, one=Secrets([0, 0]), other=Secrets([0, 1]), first=tapes[0], second=tapes[1],
                            t=1, rule=rule, beats=2, pieces=None), False)


class Errors(unittest.TestCase):
    def setUp(self):
        self.good = {"circuit": Circuit(OPENED), "one": Secrets([0, 0], [[1]] * 3), "other": Secrets([0, 1], [[1]] * 3),
                     "tape": Tape([0] * 60), "t": 1, "rule": Fixed([["part a 0"]]), "beats": 2, "pieces": None}

    def twin(self, **named):
        return twin(**{**self.good, **named})

    def alike(self, **named):
        values = {**self.good, **named}
        tape = values.pop("tape")
        return alike(**{"first": tape, "second": tape, **values})

    def test_good(self):
        self.assertEqual(self.twin().ks, (1, 0))
        self.assertIs(self.alike(), True)

    def test_numbers(self):
        for value in ANY_VALUES + [3, 4, 64, 65, 1.0, Tape([])]:
            for call in (self.twin, self.alike):
                number = type(value) is int
                if not (number and 1 <= value <= 3):
                    self.assertIs(raised(self, BadNumber, call, t=value).value, value)
                    self.assertIs(raised(self, BadNumber, call, t=value, beats=None).value, value)
                if not (number and 0 <= value <= 64):
                    self.assertIs(raised(self, BadNumber, call, beats=value).value, value)
                    self.assertIs(raised(self, BadNumber, call, beats=value, one=Secrets([])).value, value)

    def test_secrets(self):
        wrong = [(Secrets([0], [[1]] * 3), "first"), (Secrets([0, 0, 0], [[1]]), "first"),
                 (Secrets([0, 0], [[1], [1, 1]]), "later"), (Secrets([0, 0], [[1]]), "later"), (Secrets([0, 0]), "later")]
        for call in (self.twin, self.alike):
            for secrets, what in wrong:
                self.assertEqual(raised(self, BadSecrets, call, one=secrets).what, what)
                self.assertEqual(raised(self, BadSecrets, call, other=secrets).what, what)
                for others, _ in wrong:
                    self.assertEqual(raised(self, BadSecrets, call, one=secrets, other=others).what, what)
            # Rows that are missing behind the beats do not count.
            self.assertTrue(call(one=Secrets([0, 0], [[1]] * 2), other=Secrets([0, 1], [[1]] * 2)))
            self.assertTrue(call(one=Secrets([0, 0]), other=Secrets([0, 1]), beats=0))

    def test_runs(self):
        door, first = bits_needed(Circuit(OPENED), 0), bits_needed(Circuit(OPENED), 1)
        for call in (self.twin, self.alike):
            for many, at in ((door - 1, 0), (door, 0), (first - 1, 0), (first, 1), (first + 5, 1)):
                self.assertEqual(raised(self, TapeEnds, call, tape=Tape([0] * many)).at, at)
            self.assertEqual(raised(self, TapeEnds, call, tape=Tape([0] * (door - 1)), beats=0).at, 0)
            self.assertTrue(call(tape=Tape([0] * door), beats=0))
            self.assertIsNone(raised(self, BadLook, call, rule=Fixed([[], [None]])).look)
            self.assertEqual(raised(self, BadLook, call, rule=lambda *values: "part a 0").look, "part a 0")
            self.assertEqual(raised(self, TooMany, call, rule=Fixed([["part a 0", "part a 1"]])).many, 2)
        # Beats behind the last one are not asked for.
        self.assertEqual(self.twin(rule=Fixed([[], [], [None]])).ks, (0, 0))

    def test_not_taken(self):
        for call in (self.twin, self.alike):
            for pieces, name in (({"x": taken("ring")}, "x"), ({"a": None, "b": taken("ring")}, "a"),
                                 ({"p": taken("ring")}, "p"), ({"p": taken("product"), "z": None}, "z")):
                self.assertEqual(raised(self, NotTaken, call, pieces=pieces).name, name)
            self.assertEqual(raised(self, NotTaken, call, pieces={"a": taken("ring")}, t=2).name, "a")
            self.assertTrue(call(pieces={"a": taken("ring"), "p": taken("product")}))

    def test_several_at_once(self):
        faults = [("t", 4, BadNumber), ("beats", 65, BadNumber), ("one", Secrets([]), BadSecrets),
                  ("other", Secrets([0, 0]), BadSecrets), ("pieces", {"x": None}, NotTaken),
                  ("other", Secrets([1, 0], [[1]] * 3), Parted), ("tape", Tape([0]), TapeEnds),
                  ("rule", Fixed([[None]]), BadLook)]
        for many in range(1, 6):
            for chosen in itertools.combinations(faults, many):
                named = {}
                for name, value, _ in chosen:
                    named.setdefault(name, value)
                raised(self, chosen[0][2], self.twin, **named)
                rest = [fault for fault in chosen if fault[2] is not Parted]
                if rest:
                    raised(self, rest[0][2], self.alike, **named)
                else:
                    self.assertIs(self.alike(**named), False)

    def test_errors_of_the_run_with_one_come_first(self):
        """What only the run with other runs into is an error of alike, but not of twin."""
        good, short = Tape([0] * 60), Tape([0] * (bits_needed(Circuit(OPENED), 2) - 1))
        values = {name: value for name, value in self.good.items() if name != "tape"}
        for first, second, rule in ((good, short, Rule()), (short, good, Rule()), (short, short, Rule())):
            error = raised(self, TapeEnds, alike, **{**values, "first": first, "second": second, "rule": rule})
            self.assertEqual(error.at, 1)
        wrong = {**values, "first": good, "second": short, "rule": Fixed([[None]])}
        self.assertIsNone(raised(self, BadLook, alike, **wrong).look)
        # The whole run with one, ahead of the door of other.
        wrong = {**values, "first": short, "second": Tape([]), "rule": Rule()}
        self.assertEqual(raised(self, TapeEnds, alike, **wrong).at, 1)

        def rule(beat, readings, opened):
            return ["nope"] if beat == 1 and opened[0] == (1,) else []

        parted = {**values, "other": Secrets([1, 0], [[1]] * 3), "rule": rule, "first": good, "second": good}
        self.assertEqual(raised(self, BadLook, alike, **parted).look, "nope")
        self.assertEqual(raised(self, Parted, self.twin, other=parted["other"], rule=rule).at, 0)

    def test_what_is_passed_stays(self):
        pieces = {"a": taken("ring")}
        self.twin(pieces=pieces)
        self.alike(pieces=pieces)
        self.assertEqual(list(pieces), ["a"])


if __name__ == "__main__":
    unittest.main()
