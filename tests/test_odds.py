import itertools
import unittest
from collections import Counter

from covered import Covering, Picking, needed
from needleblind.circuits import Circuit
from needleblind.errors import BadLook, BadNumber, BadSecrets, BadTape, TooMany
from needleblind.odds import is_unlike, odds, unlike
from needleblind.plain import Secrets
from needleblind.rules import ByParity, Fixed, Rule
from needleblind.tapes import Tape
from support import ANY_VALUES, raised, sources

TEXT = "secret a from c\nin x\nc = a and x\nd = c xor a\n"


def listed(text, secrets, rule, beats, n, refresh=True, free=None):
    """The odds by a listing of all tapes."""
    many = needed(text, n, beats, refresh)
    positions = list(range(many)) if free is None else sorted(free)
    found = Counter()
    for bits in itertools.product((0, 1), repeat=len(positions)):
        tape = [0] * many
        for at, bit in zip(positions, bits):
            tape[at] = bit
        run, readings, opened = Covering(text, *secrets, tape, n, refresh), [], []
        for beat in range(beats):
            looks = rule(beat, list(readings), list(opened))
            told = run.step()
            readings.append(tuple(told[look] for look in dict.fromkeys(looks)))
            opened.append(run.row())
        found[tuple(readings)] += 1
    return sorted(found.items())


def looks_of(text, n, beats, refresh=True):
    zeros = [0] * 99
    run = Covering(text, zeros, [zeros] * beats, [0] * 5000, n, refresh).go(beats)
    return [list(looks) for looks in run.looks]


class Odds(unittest.TestCase):
    def agrees(self, text, secrets, rule, beats, n, **named):
        expected = listed(text, secrets, rule, beats, n, named.get("refresh", True), named.get("free"))
        told = odds(Circuit(text), Secrets(*secrets), rule=rule, beats=beats, **named)
        self.assertEqual(told, expected)
        self.assertEqual([type(told), *{type(pair) for pair in told}], [list, tuple])
        self.assertEqual({type(reading) for row, _ in told for reading in (row, *row)}, {tuple})
        return told

    def test_bare_runs(self):
        for source in sources(60):
            n, refresh, beats = source.randint(2, 4), source.random() < 0.5, source.randint(0, 3)
            text = source.choice(("secret a from a\nc = a and a\n", "cell b 1 from c\nin x\nc = b xor x\n",
                                  "secret a from d\nd = not a\nopen d\n", "secret a from b\nsecret b from a\n", TEXT))
            if needed(text, n, beats, refresh) > 10:
                continue
            t = source.randint(1, 3)
            rule = Picking(source.random(), looks_of(text, n, beats, refresh), t)
            secrets = ([source.randrange(2) for _ in range(text.count("secret"))],
                       [[source.randrange(2)] * text.count("in x") for _ in range(beats)])
            told = self.agrees(text, secrets, rule, beats, n, t=t, parts=n, refresh=refresh)
            self.assertEqual(sum(many for _, many in told), 2 ** needed(text, n, beats, refresh))

    def test_runs(self):
        text = "secret a from a\nc = a and a\n"
        for t, look in itertools.product((1,), ("prod c 0 1", "part a 3", "sum c 3 2", "back c 3 1")):
            for bit in (0, 1):
                self.agrees(text, ([bit], []), Fixed([[look]]), 1, 4, t=t)
                # refresh is ignored.
                self.agrees(text, ([bit], []), Fixed([[look]]), 1, 4, t=t, refresh=True, parts=None)
                self.assertEqual(odds(Circuit(text), Secrets([bit]), rule=Fixed([[look]]), beats=1, refresh=False),
                                 odds(Circuit(text), Secrets([bit]), rule=Fixed([[look]]), beats=1))
        text = "secret a from a\n"
        rule = Fixed([["part a 0"], ["row a 1 0"]])
        for bit in (0, 1):
            self.agrees(text, ([bit], []), rule, 2, 4)
            # With refresh=False, a run is refreshed nevertheless.
            self.assertEqual(odds(Circuit(text), Secrets([bit]), rule=rule, beats=2, refresh=False),
                             odds(Circuit(text), Secrets([bit]), rule=rule, beats=2))
        for t, n in ((2, 7), (3, 10)):
            rule = Fixed([["part a 0", f"part a {n - 1}"]])
            self.agrees(text, ([1], []), rule, 1, n, t=t)

    def test_free_positions(self):
        for source in sources(40):
            n, beats, refresh = source.choice((2, 3, 4)), source.randint(1, 3), source.random() < 0.5
            many = needed(TEXT, n, beats, refresh)
            free = source.sample(range(many), source.randint(0, min(many, 6)))
            rule = Picking(source.random(), looks_of(TEXT, n, beats, refresh), 2)
            secrets = ([source.randrange(2)], [[source.randrange(2)] for _ in range(beats)])
            kept = list(free)
            told = self.agrees(TEXT, secrets, rule, beats, n, t=2, parts=n, refresh=refresh, free=free)
            self.assertEqual(free, kept)
            self.assertEqual(sum(count for _, count in told), 2 ** len(free))
            self.assertEqual(odds(Circuit(TEXT), Secrets(*secrets), t=2, rule=rule, beats=beats, parts=n,
                                  refresh=refresh, free=tuple(free)), told)
        # Positions of a run, of which there are too many to be listed without them.
        rule = Fixed([["part c 0"], ["row a 3 0"]])
        for free in ([], [0], [40, 3, 7], list(range(0, 28, 3))):
            self.agrees(TEXT, ([1], [[1]] * 2), rule, 2, 4, free=[at for at in free if at < needed(TEXT, 4, 2)])

    def test_no_free_positions(self):
        told = odds(Circuit("secret a from a\n"), Secrets([1]), rule=Fixed([["part a 3"]]), beats=1, free=[])
        self.assertEqual(told, [(((1,),), 1)])
        self.assertEqual(odds(Circuit("secret a from a\n"), Secrets([1]), rule=Rule(), beats=64, free=()),
                         [(((),) * 64, 1)])

    def test_no_beats(self):
        for many in range(3):
            text = "".join(f"secret s{at} from s{at}\n" for at in range(many))
            told = odds(Circuit(text), Secrets([1] * many), rule=Fixed([[None]]), beats=0)
            self.assertEqual(told, [((), 8 ** many)])
        self.assertEqual(odds(Circuit(""), Secrets([]), rule=Rule(), beats=0, parts=5), [((), 1)])
        self.assertEqual(odds(Circuit("secret a from a\n"), Secrets([0]), rule=Rule(), beats=0, free=[1]), [((), 2)])

    def test_rules_by_readings(self):
        table = [(["part a 0"], []), (["part a 1"], ["part a 0"]), (["part a 1"], ["part a 0"])]
        told = self.agrees("secret a from a\n", ([1], []), ByParity(table), 3, 2, parts=2, refresh=False)
        self.assertEqual(told, [(((0,), (1,), (0,)), 1), (((1,), (1,), (0,)), 1)])

    def test_third_example(self):
        circuit, rule = Circuit("secret a from a\nc = a and a\n"), Fixed([["prod c 0 1"]])
        self.assertEqual(odds(circuit, Secrets([0]), rule=rule, beats=1, parts=2), [(((0,),), 2), (((1,),), 2)])
        self.assertEqual(odds(circuit, Secrets([1]), rule=rule, beats=1, parts=2), [(((0,),), 4)])
        self.assertEqual(unlike(circuit, Secrets([0]), Secrets([1]), rule=rule, beats=1, parts=2), (((0,),), 2, 4))
        # Also with the parts of a run there is nothing unlike.
        for look in ("prod c 0 1", "half c 1 2", "back c 3 0", "sum c 2 3", "part c 3"):
            self.assertIsNone(unlike(circuit, Secrets([0]), Secrets([1]), rule=Fixed([[look]]), beats=1))

    def test_four_looks_without_refreshes(self):
        circuit, rule = Circuit("secret a from a\n"), Fixed([[f"part a {i}"] for i in range(4)])
        for bit in (0, 1):
            told = odds(circuit, Secrets([bit]), rule=rule, beats=4, parts=4, refresh=False)
            self.assertEqual(told, [(tuple((part,) for part in parts), 1)
                                    for parts in itertools.product((0, 1), repeat=4) if sum(parts) % 2 == bit])

    def test_told_lists_are_new(self):
        circuit = Circuit("secret a from a\n")
        told = odds(circuit, Secrets([1]), rule=Rule(), beats=1)
        told.clear()
        self.assertEqual(odds(circuit, Secrets([1]), rule=Rule(), beats=1), [(((),), 8)])


class Unlike(unittest.TestCase):
    def cases(self):
        """Odds of pairs of secrets, like and unlike ones."""
        for source in sources(60):
            n, beats, refresh = source.choice((2, 2, 3)), source.randint(0, 2), source.random() < 0.5
            if needed(TEXT, n, beats, refresh) > 9:
                continue
            rule = Picking(source.random(), looks_of(TEXT, n, beats, refresh), 2)
            both = [([source.randrange(2)], [[source.randrange(2)] for _ in range(beats)]) for _ in range(2)]
            named = {"t": 2, "rule": rule, "beats": beats, "parts": n, "refresh": refresh}
            yield both, named, [dict(listed(TEXT, secrets, rule, beats, n, refresh)) for secrets in both]

    def test_papers(self):
        found = {}
        for both, named, told in self.cases():
            secrets = [Secrets(*pair) for pair in both]
            rows = sorted(row for row in {**told[0], **told[1]} if told[0].get(row, 0) != told[1].get(row, 0))
            expected = (rows[0], told[0].get(rows[0], 0), told[1].get(rows[0], 0)) if rows else None
            paper = unlike(Circuit(TEXT), *secrets, **named)
            self.assertEqual(paper, expected)
            self.assertEqual(unlike(Circuit(TEXT), *secrets[::-1], **named),
                             None if paper is None else (paper[0], paper[2], paper[1]))
            found[type(paper)] = True
            for row in {**told[0], **told[1]}:
                counts = told[0].get(row, 0), told[1].get(row, 0)
                self.assertIs(is_unlike(Circuit(TEXT), *secrets, (row, *counts), **named), counts[0] != counts[1])
            if paper is not None:
                self.assertEqual([type(side) for side in (paper, *paper)], [tuple, tuple, int, int])
                self.altered(secrets, named, told, paper)
        self.assertEqual(len(found), 2)

    def altered(self, secrets, named, told, paper):
        """Papers that are altered at every place, of which none holds but where it says the truth."""
        row, first, second = paper
        others = [(row, first), (row, first, second, 0), (row,), (), (row, second, first), (row, first, first),
                  (row, first + 1, second), (row, first, second + 1), (row, -1, second), (list(row), first, second),
                  ((), first, second), (row + ((),), first, second), (row[:-1], first, second), [row, first, second],
                  (row, str(first), second), (row, None, second), (row, first, None), (row, [first], second),
                  (None, first, second), (5, first, second), ("", first, second), (first, row, second),
                  (row, float(first), second), (row, first, float(second)), {row: first}, (row, 10 ** 9, second)]
        others += [(row, bool(first), second), (row, first, bool(second)), (row, True, False)]
        for at, reading in enumerate(row):
            changes = [list(reading), reading + (0,), reading[:-1], None, 0, (None,), ((),), "".join(map(str, reading)),
                       {}, tuple(bool(bit) for bit in reading), tuple(2 for _ in reading)]
            changes += [reading[:place] + (1 - bit,) + reading[place + 1:] for place, bit in enumerate(reading)]
            others += [(row[:at] + (change,) + row[at + 1:], first, second) for change in changes]
        for value in others:
            expected = self.truly(told, value)
            self.assertIs(is_unlike(Circuit(TEXT), *secrets, value, **named), expected, value)

    def truly(self, told, value):
        if repr(value) == repr(()) or type(value) is not tuple or len(value) != 3:
            return False
        for row in {**told[0], **told[1]}:
            truth = (row, told[0].get(row, 0), told[1].get(row, 0))
            if repr(truth) == repr(value):
                return truth[1] != truth[2]
        return False

    def test_one_count_may_be_none(self):
        circuit, rule = Circuit("secret a from a\n"), Fixed([["part a 0", "part a 1"]])
        named = {"t": 2, "rule": rule, "beats": 1, "parts": 2}
        one, other = Secrets([0]), Secrets([1])
        self.assertEqual(unlike(circuit, one, other, **named), (((0, 0),), 1, 0))
        self.assertEqual(unlike(circuit, other, one, **named), (((0, 0),), 0, 1))
        self.assertIs(is_unlike(circuit, one, other, (((0, 0),), 1, 0), **named), True)
        for counts in ((True, 0), (1, False), (True, False)):
            self.assertIs(is_unlike(circuit, one, other, (((0, 0),), *counts), **named), False)
        for reading in ((False, 0), (0, False)):
            self.assertIs(is_unlike(circuit, one, other, ((reading,), 1, 0), **named), False)
        self.assertIs(is_unlike(circuit=circuit, one=one, other=other, paper=(((0, 1),), 0, 1), free=None, refresh=True,
                                **named), True)
        self.assertIs(is_unlike(circuit, one, other, (((1, 1),), 0, 1), **named), False)
        # A reading row that no tape gives with either secrets.
        self.assertIs(is_unlike(circuit, one, other, (((0, 0, 0),), 0, 0), **named), False)
        self.assertIs(is_unlike(circuit, one, other, (((0,),), 0, 1), **named), False)

    def test_any_value(self):
        circuit, rule = Circuit("secret a from a\nc = a and a\n"), Fixed([["prod c 0 1"]])
        for value in ANY_VALUES + [(((0,),), 2, 4.0), Tape([])]:
            self.assertIs(is_unlike(circuit, Secrets([0]), Secrets([1]), value, rule=rule, beats=1, parts=2), False)
        self.assertIs(is_unlike(circuit, Secrets([0]), Secrets([1]), (((0,),), 2, 4), rule=rule, beats=1, parts=2), True)
        self.assertIs(is_unlike(circuit, Secrets([0]), Secrets([1]), (((1,),), 2, 0), rule=rule, beats=1, parts=2), True)


class Errors(unittest.TestCase):
    def setUp(self):
        self.good = {"circuit": Circuit("secret a from a\nin x\n"), "rule": Fixed([["part a 0"]]), "t": 1, "beats": 1,
                     "parts": 2, "refresh": True, "free": None}
        self.secrets = Secrets([0], [[1]])

    def calls(self, **named):
        """odds, unlike and is_unlike, with the secrets wrong in each place."""
        values = {**self.good, **named}
        wrong = values.pop("secrets", self.secrets)
        yield odds, {"secrets": wrong, **values}
        for one, other in ((wrong, self.secrets), (self.secrets, wrong)):
            yield unlike, {"one": one, "other": other, **values}
            yield is_unlike, {"one": one, "other": other, "paper": None, **values}

    def refused(self, error, named, **values):
        for call, given in self.calls(**named):
            caught = raised(self, error, call, **given)
            for name, value in values.items():
                self.assertEqual(getattr(caught, name), value)

    def test_numbers(self):
        for value in ANY_VALUES + [3, 10, 11, 64, 65, 2.0, Tape([])]:
            number = type(value) is int
            if value is not None and not (number and 2 <= value <= 10):
                self.refused(BadNumber, {"parts": value}, value=value)
                self.refused(BadNumber, {"parts": value, "t": None, "beats": None}, value=value)
            if not (number and 1 <= value <= 10):
                self.refused(BadNumber, {"t": value}, value=value)
            if not (number and 1 <= value <= 3):
                self.refused(BadNumber, {"t": value, "parts": None}, value=value)
                self.refused(BadNumber, {"t": value, "parts": None, "beats": None}, value=value)
            if not (number and 0 <= value <= 64):
                self.refused(BadNumber, {"beats": value}, value=value)
                self.refused(BadNumber, {"beats": value, "secrets": Secrets([])}, value=value)
        self.assertEqual(len(odds(secrets=self.secrets, **{**self.good, "t": 10})), 2)

    def test_secrets(self):
        for secrets, what in ((Secrets([]), "first"), (Secrets([0, 1], [[]]), "first"), (Secrets([0], [[]]), "later"),
                              (Secrets([0], [[1], [1, 1]]), "later"), (Secrets([0]), "later")):
            self.refused(BadSecrets, {"secrets": secrets}, what=what)
            self.refused(BadSecrets, {"secrets": secrets, "free": None}, what=what)

    def test_free(self):
        wrong = [[0, 0], [2], [-1], [True], [0, None], "0", {}, {0: 1}, 0, (0, 1, 0), [0, [1]], [0.0], [(0,)], ["0"],
                 [999999999], Tape([0]), True, [0, False]]
        for value in wrong:
            self.refused(BadTape, {"free": value}, value=value)
        for value in ANY_VALUES:
            good = value is None or (type(value) in (list, tuple) and all(type(at) is int and at in (0, 1) for at in value))
            if good and (value is None or len(set(value)) == len(value)):
                odds(secrets=self.secrets, **{**self.good, "free": value})
            else:
                self.refused(BadTape, {"free": value}, value=value)

    def test_most_bits(self):
        text = "".join(f"secret s{at} from s{at}\n" for at in range(15))
        values = {"rule": Fixed([["part s0 1"]]), "beats": 1, "parts": 2}
        circuit = Circuit("".join(text.splitlines(True)[:14]))
        told = odds(circuit, Secrets([1] + [0] * 13), **values)
        self.assertEqual(told, [(((0,),), 8192), (((1,),), 8192)])
        self.assertIs(is_unlike(circuit, Secrets([0] * 14), Secrets([1] * 14), (((0,),), 8192, 8192), **values), False)
        circuit, secrets = Circuit(text), Secrets([1] * 15)
        for call, given in ((odds, {"secrets": secrets}), (unlike, {"one": secrets, "other": secrets})):
            error = raised(self, TooMany, call, circuit, **given, **values)
            self.assertEqual((error.what, error.many), ("listed", 15))
            error = raised(self, TooMany, call, circuit, **given, **values, free=list(range(14, -1, -1)))
            self.assertEqual((error.what, error.many), ("listed", 15))
            wrong = [0] * 15
            self.assertIs(raised(self, BadTape, call, circuit, **given, **values, free=wrong).value, wrong)
            error = raised(self, TooMany, call, circuit, **given, rule=Fixed([[None]]), beats=64, parts=2)
            self.assertEqual((error.what, error.many), ("listed", 15 + 15 * 63))
        error = raised(self, TooMany, odds, circuit, secrets, rule=Rule(), beats=0)
        self.assertEqual((error.what, error.many), ("listed", 45))
        self.assertEqual(odds(circuit, secrets, rule=Fixed([["part s3 1"]]), beats=1, parts=2, free=[3, 14, 0]),
                         [(((0,),), 4), (((1,),), 4)])

    def test_runs_of_the_least_tape_with_errors(self):
        """Which looks are wrong hangs on what was read: the first tape with errors is the least one as a row of bits."""
        circuit = Circuit("secret a from b\nsecret b from a\n")

        def rule(beat, readings, opened):
            if beat == 0:
                return ["part a 0", "part b 0"]
            return [f"nope {readings[0][0]} {readings[0][1]}"] if readings[0] in wrong else []

        rows = list(itertools.product((0, 1), repeat=2))
        named = {"t": 2, "rule": rule, "beats": 2, "parts": 2, "refresh": False}
        for many in range(1, 5):
            for wrong in itertools.combinations(rows, many):
                for free in (None, [0, 1], (1, 0), [1], [0], []):
                    if free is None or len(free) == 2:
                        there = rows
                    else:
                        there = [row for row in rows if all(bit == 0 for at, bit in enumerate(row) if at not in free)]
                    met = [row for row in there if row in wrong]
                    for call, given in ((odds, [Secrets([1, 0])]), (unlike, [Secrets([1, 0]), Secrets([0, 0])]),
                                        (is_unlike, [Secrets([1, 0]), Secrets([0, 0]), None])):
                        if met:
                            error = raised(self, BadLook, call, circuit, *given, **named, free=free)
                            self.assertEqual(error.look, f"nope {met[0][0]} {met[0][1]}")
                        else:
                            call(circuit, *given, **named, free=free)

    def test_all_errors_of_one_come_first(self):
        circuit = Circuit("secret a from a\nin x\n")
        good, first, later = Secrets([0], [[1]]), Secrets([]), Secrets([0])
        named = {"rule": Rule(), "beats": 1, "parts": 2}
        for one, other in itertools.product((good, first, later), repeat=2):
            wrong = [secrets for secrets in (one, other) if secrets is not good]
            if wrong:
                what = "first" if wrong[0] is first else "later"
                self.assertEqual(raised(self, BadSecrets, unlike, circuit, one, other, **named).what, what)
                self.assertEqual(raised(self, BadSecrets, is_unlike, circuit, one, other, None, **named).what, what)
        # A wrong list of free positions, and a wrong look in the runs with one, come ahead of wrong secrets of other.
        for call, more in ((unlike, []), (is_unlike, [None])):
            self.assertEqual(raised(self, BadTape, call, circuit, good, first, *more, **named, free=5).value, 5)
            self.assertEqual(raised(self, BadSecrets, call, circuit, first, good, *more, **named, free=5).what, "first")
            error = raised(self, TooMany, call, circuit, good, first, *more, rule=Rule(), beats=1, parts=10)
            self.assertEqual(error.many, 18)
            bad = {**named, "rule": Fixed([["nope"]])}
            self.assertEqual(raised(self, BadLook, call, circuit, good, first, *more, **bad).look, "nope")

    def test_several_at_once(self):
        faults = [("parts", 1, BadNumber), ("t", 0, BadNumber), ("beats", -1, BadNumber), ("secrets", Secrets([]), BadSecrets),
                  ("free", [0, 0], BadTape), ("rule", Fixed([["nope"]]), BadLook)]
        for many in range(1, 7):
            for chosen in itertools.combinations(faults, many):
                values = {**self.good, "secrets": self.secrets, **{name: value for name, value, _ in chosen}}
                error = raised(self, chosen[0][2], odds, **values)
                if chosen[0][2] is BadNumber:
                    self.assertEqual(error.value, chosen[0][1])


if __name__ == "__main__":
    unittest.main()
