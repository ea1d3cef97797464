import itertools
import unittest

from needleblind.circuits import Circuit
from needleblind.errors import BadNumber, BadSecrets, NoWire, TooMany
from needleblind.plain import PlainRun, Secrets, differences, first_parting, plain_rows
from support import ANY_VALUES, is_row, opened_rows, raised, random_bits, random_circuit, sources, wire_bits

# Cells that hold themselves, that read a later wire, an in and another cell; a wire that is opened twice.
TEXT = ("secret a from a\nsecret b from q\ncell c 1 from b\nin x\ncell d 0 from x\np = a xor x\nq = p and c\nin y\n"
        "r = not y\nopen q\nopen d\nopen q\nopen b\n")
STILL = "secret a from a\nsecret b from a\ncell c 1 from d\nd = not c\ne = a and c\nopen e\nopen b\n"


def random_case(source, beats, **named):
    """A circuit's text with two secrets for so many beats."""
    many = {name: source.randint(0, 3) for name in ("secrets", "cells", "ins")}
    many.update(named)
    if not sum(many.values()):
        many["cells"] = 1
    text = random_circuit(source, gates=source.randint(0, 12), opens=source.randint(0, 5), **many)
    made = [(random_bits(source, many["secrets"]), [random_bits(source, many["ins"]) for _ in range(beats)])
            for _ in range(2)]
    return text, made


class MakingSecrets(unittest.TestCase):
    def test_what_is_told(self):
        for first, later in (([1, 0], [[1], (0,)]), ((1, 0), ([1], [0])), ((1, 0), ((1,), (0,)))):
            secrets = Secrets(first, later)
            self.assertEqual((secrets.first(), secrets.later()), ((1, 0), ((1,), (0,))))
            self.assertEqual((type(secrets.first()), type(secrets.later())), (tuple, tuple))
            self.assertEqual({type(row) for row in secrets.later()}, {tuple})
            self.assertEqual(repr(secrets), "Secrets(2 bits, 2 rows)")
        named = Secrets(later=[[0, 1, 1]], first=[1])
        self.assertEqual((named.first(), named.later()), ((1,), ((0, 1, 1),)))
        self.assertEqual(repr(named), "Secrets(1 bits, 1 rows)")

    def test_nothing(self):
        for secrets in (Secrets([]), Secrets(()), Secrets([], []), Secrets((), later=())):
            self.assertEqual((secrets.first(), secrets.later(), repr(secrets)), ((), (), "Secrets(0 bits, 0 rows)"))
        self.assertEqual(Secrets([], [[], ()]).later(), ((), ()))
        self.assertEqual(repr(Secrets([], [[], ()])), "Secrets(0 bits, 2 rows)")
        # The rows need not be of one length here.
        self.assertEqual(Secrets([], [[], [1], [0, 1]]).later(), ((), (1,), (0, 1)))

    def test_equal(self):
        one = Secrets([1, 0], [[1], [0]])
        self.assertTrue(one == Secrets((1, 0), ((1,), (0,))))
        self.assertFalse(one != Secrets((1, 0), ((1,), (0,))))
        for other in (Secrets([1, 1], [[1], [0]]), Secrets([1, 0], [[1], [1]]), Secrets([1, 0], [[1]]),
                      Secrets([1, 0]), Secrets([1], [[1], [0]]), Secrets([1, 0], [[1], [0], []])):
            self.assertFalse(one == other)
            self.assertTrue(one != other)
        for value in ANY_VALUES + [((1, 0), ((1,), (0,)))]:
            self.assertFalse(one == value)
            self.assertTrue(one != value)

    def test_wrong_values(self):
        more = [[2], (1, -1), [0, "1"], [1.0], [[0]], "01", [None], {0: 1}, [0, 1, True], Secrets([])]
        for value in ANY_VALUES + more:
            if is_row(value):
                self.assertEqual(Secrets(value).first(), tuple(value))
            else:
                self.assertEqual(raised(self, BadSecrets, Secrets, value).what, "first")
                self.assertEqual(raised(self, BadSecrets, Secrets, value, None).what, "first")
        for value in ANY_VALUES + more + [[[0], 1], [[0], [2]], ([0], (True,)), [[0], {}], [[0], "0"], ["0"], [()]]:
            if type(value) in (list, tuple) and all(is_row(row) for row in value):
                self.assertEqual(Secrets([1], value).later(), tuple(tuple(row) for row in value))
            else:
                self.assertEqual(raised(self, BadSecrets, Secrets, [1], value).what, "later")

    def test_copies(self):
        first, rows = [1, 0], [[1], [0]]
        secrets = Secrets(first, rows)
        first.append(1)
        rows[0][0] = 0
        rows.pop()
        self.assertEqual((secrets.first(), secrets.later()), ((1, 0), ((1,), (0,))))
        first, rows = [1, 0], [[1], [0]]
        Secrets(first, rows)
        self.assertEqual((first, rows), ([1, 0], [[1], [0]]))


class Fitting(unittest.TestCase):
    def test_with_ins(self):
        circuit = Circuit(TEXT)
        for rows in range(5):
            secrets = Secrets([0, 1], [[0, 1]] * rows)
            for beats in range(6):
                self.assertIs(secrets.fits(circuit, beats), beats <= rows)
        self.assertIs(Secrets([0, 1], [[0, 1]] * 100).fits(circuit=circuit, beats=100), True)
        self.assertIs(Secrets([0, 1], [[0, 1]] * 100).fits(circuit, 101), False)

    def test_without_ins(self):
        circuit = Circuit(STILL)
        for rows in range(4):
            for beats in (0, 1, 3, 64, 65, 1000, 999999999):
                self.assertIs(Secrets([0, 1], [[]] * rows).fits(circuit, beats), True)
        self.assertIs(Secrets([0, 1], [[], [1]]).fits(circuit, 0), False)
        self.assertIs(Secrets([]).fits(Circuit(""), 64), True)

    def test_wrong_lengths(self):
        circuit = Circuit(TEXT)
        for first in ([], [0], [0, 1, 1]):
            self.assertIs(Secrets(first, [[0, 1]] * 3).fits(circuit, 2), False)
            self.assertIs(Secrets(first).fits(circuit, 0), False)
        for row in ([], [0], [0, 1, 1]):
            # All later rows count, those beyond the beats, too.
            self.assertIs(Secrets([0, 1], [[0, 1], [0, 1], row]).fits(circuit, 2), False)
            self.assertIs(Secrets([0, 1], [row]).fits(circuit, 0), False)


class Running(unittest.TestCase):
    def test_worked_call(self):
        circuit = Circuit("cell c 0 from d\nd = not c\nopen c\n")
        self.assertEqual(plain_rows(circuit, Secrets([]), 3), [(0,), (1,), (0,)])

    def test_beside_the_text(self):
        for source in sources(150):
            beats = source.choice((0, 1, 2, 5, 9))
            text, ((first, later), _) = random_case(source, beats)
            circuit, secrets = Circuit(text), Secrets(first, later)
            expected = wire_bits(text, first, later, beats)
            rows = opened_rows(text, first, later, beats)
            run = PlainRun(circuit, secrets)
            for at in range(beats):
                self.assertEqual((run.beat, run.opened), (at, rows[:at]))
                told = run.step()
                self.assertEqual((told, type(told)), (rows[at], tuple))
                self.assertEqual({wire: run.bit(wire) for wire in circuit.wires()}, expected[at])
                self.assertEqual({type(run.bit(wire)) for wire in circuit.wires()}, {int})
            self.assertEqual((run.beat, run.opened), (beats, rows))
            self.assertEqual(plain_rows(circuit, secrets, beats), rows)
            self.assertEqual((secrets.first(), secrets.later()), (first, tuple(later)))

    def test_by_hand(self):
        run = PlainRun(Circuit(TEXT), Secrets([1, 0], [[0, 1], [1, 1], [0, 0]]))
        # q = (a xor x) and c; b has q of the beat before, c has b, d has x; a holds itself.
        self.assertEqual([run.step() for _ in range(3)], [(1, 0, 1, 0), (0, 0, 0, 1), (1, 1, 1, 0)])
        self.assertEqual([run.bit(wire) for wire in "abcdxpqyr"], [1, 0, 1, 1, 0, 1, 1, 0, 1])

    def test_later_rows_beyond_the_beats(self):
        rows = [[0, 1], [1, 1]]
        for more in ([], [[0, 0]], [[1, 1]] * 80):
            self.assertEqual(plain_rows(Circuit(TEXT), Secrets([1, 0], rows + more), 2), [(1, 0, 1, 0), (0, 0, 0, 1)])
        self.assertEqual(plain_rows(Circuit(STILL), Secrets([1, 0], [[]]), 4),
                         plain_rows(Circuit(STILL), Secrets([1, 0]), 4))

    def test_circuits_without_anything(self):
        self.assertEqual(plain_rows(Circuit(""), Secrets([]), 3), [(), (), ()])
        self.assertEqual(plain_rows(Circuit("in x\nopen x\n"), Secrets([], [[1], [0]]), 2), [(1,), (0,)])
        self.assertEqual(plain_rows(Circuit("in x\n"), Secrets([]), 0), [])

    def test_told_lists_are_new(self):
        run = PlainRun(Circuit(STILL), Secrets([1, 0]))
        run.step()
        run.step()
        kept = run.opened
        run.opened.append((1,))
        run.opened.clear()
        self.assertEqual(run.opened, kept)
        before = list(kept)
        run.step()
        self.assertEqual(kept, before)
        rows = plain_rows(Circuit(STILL), Secrets([1, 0]), 2)
        rows.clear()
        self.assertEqual(plain_rows(Circuit(STILL), Secrets([1, 0]), 2), before)
        for name in ("beat", "opened"):
            self.assertIsInstance(vars(PlainRun)[name], property)


class Errors(unittest.TestCase):
    def stands(self, run, call, error, *values):
        """The call raises, and the run stands as before."""
        wires = Circuit(TEXT).wires()
        told = run.beat, run.opened, [run.bit(wire) if run.beat else None for wire in wires]
        caught = raised(self, error, call, *values)
        self.assertEqual((run.beat, run.opened, [run.bit(wire) if run.beat else None for wire in wires]), told)
        return caught

    def test_wrong_lengths(self):
        circuit = Circuit(TEXT)
        for first in ([], [0], [0, 1, 1]):
            for later in ((), [[0]], [[0, 1]]):
                self.assertEqual(raised(self, BadSecrets, PlainRun, circuit, Secrets(first, later)).what, "first")
                self.assertEqual(raised(self, BadSecrets, plain_rows, circuit, Secrets(first, later), 0).what, "first")
        for later in ([[0]], [[0, 1], []], [[0, 1], [0, 1, 1]], [[0, 1]] * 70 + [[0]]):
            self.assertEqual(raised(self, BadSecrets, PlainRun, circuit, Secrets([0, 1], later)).what, "later")
            self.assertEqual(raised(self, BadSecrets, plain_rows, circuit, Secrets([0, 1], later), 0).what, "later")
        self.assertEqual(raised(self, BadSecrets, PlainRun, Circuit(STILL), Secrets([0, 1], [[], [0]])).what, "later")

    def test_too_few_later_rows(self):
        run = PlainRun(Circuit(TEXT), Secrets([1, 0], [[0, 1], [1, 1]]))
        run.step()
        run.step()
        for _ in range(3):
            self.assertEqual(self.stands(run, run.step, BadSecrets).what, "later")
        run = PlainRun(Circuit(TEXT), Secrets([1, 0]))
        self.assertEqual(self.stands(run, run.step, BadSecrets).what, "later")
        self.assertEqual(raised(self, BadSecrets, plain_rows, Circuit(TEXT), Secrets([1, 0], [[0, 0]]), 2).what, "later")
        self.assertEqual(plain_rows(Circuit(TEXT), Secrets([1, 0]), 0), [])

    def test_most_beats(self):
        for text, first, later in ((STILL, [1, 0], ()), (TEXT, [1, 0], [[0, 1]] * 64), (TEXT, [1, 0], [[0, 1]] * 70)):
            run = PlainRun(Circuit(text), Secrets(first, later))
            for _ in range(64):
                run.step()
            self.assertEqual(run.opened, opened_rows(text, first, later, 64))
            for _ in range(2):
                error = raised(self, TooMany, run.step)
                self.assertEqual((error.what, error.many), ("beats", 65))
                self.assertEqual((run.beat, run.opened), (64, opened_rows(text, first, later, 64)))
        self.assertEqual(len(plain_rows(Circuit(STILL), Secrets([1, 0]), 64)), 64)

    def test_numbers_of_beats(self):
        circuit, good = Circuit(TEXT), Secrets([0, 1], [[0, 0]] * 64)
        for beats in ANY_VALUES + [64, 65, 1.0, "1", circuit]:
            if type(beats) is int and 0 <= beats <= 64:
                self.assertEqual(len(plain_rows(circuit, good, beats)), beats)
                self.assertEqual(len(differences(circuit, good, good, beats)), beats)
                self.assertIsNone(first_parting(circuit, good, good, beats))
                continue
            for bad in (good, Secrets([0]), Secrets([0, 1], [[1]])):
                self.assertIs(raised(self, BadNumber, plain_rows, circuit, bad, beats).value, beats)
                self.assertIs(raised(self, BadNumber, differences, circuit, bad, good, beats).value, beats)
                self.assertIs(raised(self, BadNumber, first_parting, circuit, good, bad, beats).value, beats)

    def test_no_wire(self):
        circuit = Circuit(TEXT)
        run = PlainRun(circuit, Secrets([1, 0], [[0, 1]]))
        for value in ANY_VALUES + ["p", "q", circuit]:
            self.assertIs(raised(self, NoWire, run.bit, value).name, value)
        run.step()
        for value in ANY_VALUES + ["p", "z", "open", circuit]:
            if value in circuit:
                self.assertIn(run.bit(wire=value), (0, 1))
            else:
                self.assertIs(self.stands(run, run.bit, NoWire, value).name, value)


class Differing(unittest.TestCase):
    def test_beside_the_text(self):
        parted = {}
        for source in sources(200):
            beats = source.choice((0, 1, 3, 6, 10))
            text, (one, other) = random_case(source, beats)
            if source.random() < 0.6:
                # Secrets that differ in one bit alone part late, or never.
                other = (one[0], [list(row) for row in one[1]])
                if beats and other[1][0]:
                    other[1][source.randrange(beats)][0] ^= 1
                elif one[0]:
                    other = ((1 - one[0][0], *one[0][1:]), one[1])
            circuit, first, second = Circuit(text), Secrets(*one), Secrets(*other)
            expected = [{wire: bits[wire] ^ others[wire] for wire in bits}
                        for bits, others in zip(wire_bits(text, *one, beats), wire_bits(text, *other, beats))]
            told = differences(circuit, first, second, beats)
            self.assertEqual(told, expected)
            self.assertEqual([list(bits) for bits in told], [circuit.wires()] * beats)
            unlike = [at for at in range(beats) if any(expected[at][wire] for wire in circuit.opens())]
            at = first_parting(circuit, first, second, beats)
            self.assertEqual(at, min(unlike, default=None))
            self.assertEqual(first_parting(circuit, second, first, beats), at)
            parted[at] = True
        self.assertLessEqual({None, 0, 1, 2}, set(parted))

    def test_first_partings(self):
        # The in goes through a row of cells, so that it is opened three beats later.
        circuit = Circuit("in x\ncell a 0 from x\ncell b 0 from a\ncell c 0 from b\nsecret s from s\nopen c\n")
        one = Secrets([0], [[0]] * 10)
        for at in range(7):
            other = Secrets([1], [[int(beat == at)] for beat in range(10)])
            for beats in range(11):
                expected = at + 3 if beats > at + 3 else None
                self.assertEqual(first_parting(circuit=circuit, one=one, other=other, beats=beats), expected)
        self.assertEqual(first_parting(Circuit("secret a from a\nopen a\n"), Secrets([0]), Secrets([1]), 1), 0)
        self.assertIsNone(first_parting(Circuit("secret a from a\nopen a\n"), Secrets([0]), Secrets([1]), 0))
        self.assertIsNone(first_parting(Circuit("secret a from a\n"), Secrets([0]), Secrets([1]), 64))

    def test_errors_in_order(self):
        circuit = Circuit(TEXT)
        good = Secrets([0, 1], [[0, 0]] * 3)
        bad_first, bad_later, few = Secrets([0], [[1]]), Secrets([0, 1], [[1]]), Secrets([0, 1], [[0, 0]])
        for call in (differences, first_parting):
            for one, other in itertools.product((good, bad_first, bad_later, few), repeat=2):
                wrong = [secrets for secrets in (one, other) if secrets is not good]
                if wrong:
                    what = "first" if wrong[0] is bad_first else "later"
                    self.assertEqual(raised(self, BadSecrets, call, circuit, one, other, 2).what, what)
                    self.assertIs(raised(self, BadNumber, call, circuit, one, other, 65).value, 65)
            # An error of the steps of one comes ahead of one in making a run of other.
            self.assertEqual(raised(self, BadSecrets, call, circuit, few, bad_first, 2).what, "later")
            self.assertEqual(raised(self, BadSecrets, call, circuit, bad_later, bad_first, 0).what, "later")
            self.assertEqual(raised(self, BadSecrets, call, circuit, few, bad_first, 1).what, "first")

    def test_told_lists_are_new(self):
        circuit, one, other = Circuit(STILL), Secrets([1, 0]), Secrets([0, 0])
        told = differences(circuit, one, other, 3)
        kept = [dict(bits) for bits in told]
        told[0]["a"] = 5
        told.pop()
        self.assertEqual(differences(circuit, one, other, 3), kept)


if __name__ == "__main__":
    unittest.main()
