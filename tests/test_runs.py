import functools
import itertools
import unittest

from covered import Case, taken
from needleblind.circuits import Circuit
from needleblind.errors import BadLook, BadNumber, BadSecrets, NotTaken, NoWire, TapeEnds, TooMany
from needleblind.house import house_piece
from needleblind.judging import judge_piece
from needleblind.looks import all_looks
from needleblind.pieces import Piece
from needleblind.plain import Secrets, plain_rows
from needleblind.rules import ByParity, Fixed, Rule
from needleblind.runs import Run
from needleblind.tapes import Tape, bits_needed
from support import ANY_VALUES, raised, random_bits, sources

# A cell, a secret cell, an in, every gate, two open lines.
TEXT = "secret a from p\ncell b 1 from a\nin x\np = a and x\nq = p xor b\nr = not q\nopen q\nopen r\n"


class Asked:
    """A rule that keeps what it was told, and tells what a list tells."""

    def __init__(self, rows=()):
        self.rows, self.told = list(rows), []

    def __call__(self, *values):
        self.told.append(values)
        beat = values[0]
        return self.rows[beat] if beat < len(self.rows) else []


def made(case, rule, **named):
    """The run of a random case."""
    bare = {"parts": case.n, "refresh": case.refresh} if "t" not in named else {}
    return Run(Circuit(case.text), Secrets(case.first, case.later), Tape(case.tape), rule=rule, **{**bare, **named})


def standing(run):
    """All that a run tells of itself."""
    circuit = Circuit(TEXT)
    parts = [run.parts(wire) for wire in circuit.wires()] if run.beat else None
    looks = list(all_looks(circuit, run.beat - 1)) if run.beat else []
    return (run.beat, run.looked, run.readings, run.opened, run.used, run.ends, run.t, parts,
            [run.worth(look) for look in looks])


def plain_run(rule, beats=3, bits=900, rows=None, **named):
    """A run of TEXT."""
    later = [[1], [0], [1], [1]] if rows is None else rows
    tape = Tape([int(at % 3 == 0) for at in range(bits)])
    run = Run(Circuit(TEXT), Secrets([1], later), tape, rule=rule, **named)
    for _ in range(beats):
        run.step()
    return run


class BesideAnIndependentRun(unittest.TestCase):
    def agrees(self, case, run):
        """Beat by beat: parts, opened rows, used bits, all looks by worth; the looks of the rule are its own."""
        beside = case.covering()
        rows = plain_rows(Circuit(case.text), Secrets(case.first, case.later), case.beats)
        for at in range(case.beats):
            reading = run.step()
            for wire, parts in beside.parts[at].items():
                self.assertEqual((run.parts(wire), type(run.parts(wire))), (parts, tuple))
            for look, bit in beside.looks[at].items():
                self.assertEqual(run.worth(look), bit, look)
            self.assertEqual(reading, tuple(beside.looks[at][look] for look in run.looked[-1]))
            self.assertEqual((run.beat, run.used, run.ends), (at + 1, beside.used[at], beside.used[:at + 1]))
            self.assertEqual((run.opened, run.readings[-1]), (rows[:at + 1], reading))
            self.assertEqual([type(row) for row in run.opened + run.readings + run.looked], [tuple] * (3 * at + 3))

    def rule(self, source, case, t):
        """Looks by chance, some of them told twice."""
        rows = []
        for looks in case.covering().looks:
            told = [source.choice(list(looks)) for _ in range(source.randint(0, t))]
            rows.append(told + told[:source.randint(0, 2)])
        return Asked(rows)

    def test_runs(self):
        for t in (1, 2, 3):
            for source in sources(40):
                case = Case(source, n=3 * t + 1, beats=source.randint(0, 4), spare=source.choice((0, 0, 3)))
                self.agrees(case, made(case, self.rule(source, case, t), t=t))

    def test_refresh_is_ignored_in_a_run(self):
        for source in sources(10):
            case = Case(source, secrets=1)
            self.agrees(case, made(case, self.rule(source, case, 1), t=1, refresh=False))
            self.agrees(case, made(case, self.rule(source, case, 1), t=1, refresh=True, parts=None, pieces={}))

    def test_bare_runs(self):
        for n, refresh in itertools.product(range(2, 11), (True, False)):
            for source in sources(12):
                t = source.randint(1, 10)
                case = Case(source, n=n, beats=source.randint(0, 4), refresh=refresh, spare=source.choice((0, 5)))
                self.agrees(case, made(case, self.rule(source, case, t), t=t, parts=n, refresh=refresh))

    def test_pieces_are_ignored_in_a_bare_run(self):
        for source in sources(10):
            case = Case(source, secrets=1)
            pieces = {"s0": taken("ring"), "nope": None}
            self.agrees(case, made(case, self.rule(source, case, 1), parts=4, t=1, pieces=pieces))

    def test_laid_circuits(self):
        kinds = {}
        for source in sources(60):
            case = Case(source, beats=source.randint(1, 4), spare=source.choice((0, 2)), laid=source.choice((0.5, 1.0)))
            kept = dict(case.pieces)
            self.agrees(case, made(case, self.rule(source, case, 1), t=1, pieces=case.pieces))
            self.assertEqual(case.pieces, kept)
            kinds.update({piece.piece.text(): True for piece in case.pieces.values()})
        self.assertGreaterEqual(len(kinds), 5)

    def test_a_laid_circuit_with_house_pieces_is_the_plain_one(self):
        for source in sources(20):
            case = Case(source, secrets=1, gates=5)
            run = made(case, Rule(), t=1)
            pieces = {name: taken("product") for name, kind, _, _ in Circuit(case.text).gates() if kind == "and"}
            pieces.update({name: taken("refresh") for name, _, _ in Circuit(case.text).cells()})
            laid = made(case, Rule(), t=1, pieces=pieces)
            for _ in range(case.beats):
                run.step()
                laid.step()
                self.assertEqual([run.parts(wire) for wire in Circuit(case.text).wires()],
                                 [laid.parts(wire) for wire in Circuit(case.text).wires()])
            self.assertEqual(run.ends, laid.ends)

    def test_pieces_may_be_changed_afterwards(self):
        pieces = {"p": taken("product"), "a": taken("ring")}
        run = plain_run(Rule(), 0, pieces=pieces)
        pieces.clear()
        run.go(2)
        self.assertEqual(run.worth("line p z01"), run._tape[run.ends[0] + 4 + 6 + 3])
        self.assertEqual(run.used, bits_needed(Circuit(TEXT), 2, pieces={"p": taken("product"), "a": taken("ring")}))


class Examples(unittest.TestCase):
    def test_one_product(self):
        circuit = Circuit("secret a from a\nsecret b from b\nc = a and b\n")
        run = Run(circuit, Secrets([1, 1]), Tape.read("101011110100"), rule=Fixed([["prod c 0 1"]]))
        self.assertEqual(run.step(), (1,))
        self.assertEqual([run.parts(wire) for wire in "abc"], [(1, 0, 1, 1), (0, 1, 1, 1), (0, 1, 1, 1)])
        self.assertEqual([run.worth(f"coin c {i} {j}") for i, j in itertools.combinations(range(4), 2)],
                         [1, 1, 0, 1, 0, 0])
        looks = ["half c 0 1", "back c 1 0", "half c 0 3", "back c 3 0", "half c 1 2", "back c 2 1"]
        self.assertEqual([run.worth(look) for look in looks], [0, 0, 1, 1, 1, 0])
        run = Run(circuit, Secrets([0, 1]), Tape.read("100011110101"), rule=Fixed([["prod c 0 1"]]))
        self.assertEqual((run.step(), run.parts("a"), run.parts("c")), ((1,), (1, 0, 0, 1), (0, 1, 0, 1)))

    def test_worked_calls(self):
        circuit = Circuit("secret a from a\nsecret b from b\nc = a and b\n")
        run = Run(circuit, Secrets([1, 1]), Tape.read("101011110100"), t=1, rule=Fixed([["prod c 0 1"]]))
        run.step()
        self.assertEqual([run.readings, run.parts("c"), run.used], [[(1,)], (0, 1, 1, 1), 12])
        run = Run(circuit, Secrets([1, 1]), Tape.read("10101111010"), rule=Fixed([]))
        self.assertEqual(raised(self, TapeEnds, run.step).at, 0)

    def test_two_parts_are_too_few(self):
        circuit = Circuit("secret a from a\nc = a and a\n")
        for bit, many in ((0, 2), (1, 0)):
            read = []
            for coins in itertools.product((0, 1), repeat=2):
                run = Run(circuit, Secrets([bit]), Tape(coins), rule=Fixed([["prod c 0 1"]]), parts=2)
                read.append(run.step()[0])
            self.assertEqual(sum(read), many)

    def test_a_cell_that_holds_itself(self):
        circuit = Circuit("secret a from a\n")
        rule = Fixed([["part a 1"], ["turn a 0 2"]])
        for bit, tape, parts in ((1, "010110100", [(0, 1, 0, 0), (0, 1, 0, 0)]),
                                 (0, "011110000", [(0, 1, 1, 0), (0, 0, 0, 0)])):
            run = Run(circuit, Secrets([bit]), Tape.read(tape), rule=rule)
            found = []
            for _ in range(2):
                self.assertEqual(run.step(), (1,))
                found.append(run.parts("a"))
            self.assertEqual(found, parts)
        for coins, bit in itertools.product(itertools.product((0, 1), repeat=3), (0, 1)):
            run = Run(circuit, Secrets([bit]), Tape(coins), rule=Fixed([[f"part a {i}"] for i in range(4)]), parts=4,
                      refresh=False)
            run.go(4)
            self.assertEqual(sum(reading[0] for reading in run.readings) % 2, bit)
            self.assertEqual(run.used, 3)


class Told(unittest.TestCase):
    def test_ahead_of_the_first_beat(self):
        run = plain_run(Rule(), 0)
        self.assertEqual((run.beat, run.looked, run.readings, run.opened, run.used, run.ends, run.t),
                         (0, [], [], [], 3, [], 1))
        for value in ANY_VALUES + ["a", "part a 0", "part p 0"]:
            self.assertIs(raised(self, BadLook, run.worth, value).look, value)
            self.assertIs(raised(self, NoWire, run.parts, value).name, value)
        self.assertEqual(plain_run(Rule(), 0, t=3).t, 3)
        self.assertEqual(plain_run(Rule(), 0, t=10, parts=2).t, 10)
        self.assertEqual(plain_run(Rule(), 0, parts=10).used, 9)
        for name in ("beat", "looked", "readings", "opened", "used", "ends"):
            self.assertIsInstance(vars(Run)[name], property)

    def test_behind_each_beat(self):
        rule = Fixed([["part a 0"], [], ["prod p 0 1"]])
        run, readings = plain_run(rule, 0), []
        for at in range(4):
            readings.append(run.step())
            self.assertEqual((run.beat, run.readings, len(run.opened), len(run.ends)),
                             (at + 1, readings, at + 1, at + 1))
            self.assertEqual(run.looked, [("part a 0",), (), ("prod p 0 1",), ()][:at + 1])
            self.assertEqual(run.ends[-1], run.used)
            self.assertEqual(run.used, bits_needed(Circuit(TEXT), at + 1))

    def test_wrong_looks_and_wires(self):
        run = plain_run(Rule(), 1)
        for at in (0, 1):
            looks = set(all_looks(Circuit(TEXT), at))
            others = [look for n in (4, 5) for beat in (0, 1) for look in all_looks(Circuit(TEXT), beat, parts=n)]
            for value in ANY_VALUES + others + ["line p z01", "part z 0", "turn p 0 1", "prod q 0 1", "turn b 1 0"]:
                if isinstance(value, str) and value in looks:
                    self.assertIn(run.worth(look=value), (0, 1))
                else:
                    self.assertIs(raised(self, BadLook, run.worth, value).look, value)
            for value in ANY_VALUES + ["z", "open", "x", "part a 0", Circuit(TEXT)]:
                if isinstance(value, str) and value in list("abxpqr"):
                    self.assertEqual(len(run.parts(wire=value)), 4)
                else:
                    self.assertIs(raised(self, NoWire, run.parts, value).name, value)
            run.step()

    def test_told_lists_are_new(self):
        run = plain_run(Fixed([["part a 0"], ["part a 1"]]), 2)
        before = standing(run)
        for name in ("looked", "readings", "opened", "ends"):
            told = getattr(run, name)
            told.append(("x",))
            told[0] = None
            self.assertEqual(standing(run), before)

    def test_returned_kinds(self):
        run = plain_run(Rule(), 0)
        self.assertIsNone(run.go(2))
        self.assertEqual(run.step(), ())
        self.assertIs(type(run.glance([])), tuple)
        self.assertEqual([type(side) for side in run.glance(["part a 0"])], [tuple, tuple])

    def test_circuits_without_anything(self):
        run = Run(Circuit(""), Secrets([]), Tape([]), rule=Rule())
        run.go(64)
        self.assertEqual((run.readings, run.opened, run.used, run.ends), ([()] * 64, [()] * 64, 0, [0] * 64))
        self.assertEqual(raised(self, BadLook, run.worth, "part a 0").look, "part a 0")


class Rules(unittest.TestCase):
    def test_what_a_rule_is_told(self):
        for source in sources(20):
            rows = [[source.choice(list(all_looks(Circuit(TEXT), at)))] for at in range(4)]
            rule = Asked(rows)
            run = plain_run(rule, 4)
            self.assertEqual(len(rule.told), 4)
            for at, values in enumerate(rule.told):
                self.assertEqual(values, (at, run.readings[:at], run.opened[:at]))
                self.assertEqual([type(value) for value in values], [int, list, list])
                self.assertEqual([type(row) for value in values[1:] for row in value], [tuple] * (2 * at))

    def test_how_often_it_is_asked(self):
        rule = Asked([["part a 0"], ["part a 0"]])
        run = plain_run(rule, 0)
        self.assertEqual(len(rule.told), 0)
        run.step()
        self.assertEqual([values[0] for values in rule.told], [0])
        run.go(2)
        run.go(0)
        self.assertEqual([values[0] for values in rule.told], [0, 1, 2])
        run.glance(["part a 0"])
        run.worth("part a 0")
        other = run.branch()
        self.assertEqual(len(rule.told), 3)
        other.step()
        self.assertEqual(len(rule.told), 4)
        # Ahead of a beat for which the secrets or the tape do not do, it is not asked.
        run = plain_run(rule, 0, rows=[])
        raised(self, BadSecrets, run.step)
        raised(self, BadSecrets, run.go, 1)
        raised(self, BadSecrets, run.glance, [])
        for bits in (3, 4, 11):
            run = plain_run(rule, 0, bits=bits)
            raised(self, TapeEnds, run.step)
            raised(self, TapeEnds, run.go, 1)
            raised(self, TapeEnds, run.glance, [])
        self.assertEqual(len(rule.told), 4)
        # In a beat whose looks are wrong, it is.
        run = plain_run(Asked([["nope"], []]), 0)
        for many in (1, 2, 3):
            raised(self, BadLook, run.step)
            self.assertEqual(len(run._rule.told), many)

    def test_it_may_change_what_it_was_told_and_told(self):
        class Changing(Rule):
            kept = ["part a 0"]

            def told(self, beat, readings, opened):
                readings.append((1,))
                opened.clear()
                self.kept.append("part a 1")
                self.kept[:] = ["part a 2"]
                return self.kept

        rule = Changing()
        run = plain_run(rule, 3)
        rule.kept.append("part a 3")
        self.assertEqual(run.looked, [("part a 2",)] * 3)
        plain = plain_run(Fixed([["part a 2"]] * 3), 3)
        self.assertEqual((run.readings, run.opened, standing(run)), (plain.readings, plain.opened, standing(plain)))
        self.assertEqual(len(run.readings), 3)

    def test_its_own_errors_pass_through(self):
        class Mine(Exception):
            pass

        for error in (Mine, ValueError, KeyError, BadLook, TapeEnds, StopIteration, KeyboardInterrupt):
            def rule(beat, readings, opened):
                if beat == 2:
                    raise error("x")
                return ["part a 0"]

            run = plain_run(rule, 1)
            before = standing(run)
            raised(self, error, run.go, 3)
            self.assertEqual(standing(run), before)
            run.step()
            before = standing(run)
            raised(self, error, run.step)
            self.assertEqual(standing(run), before)

    def test_like_looks(self):
        for rule in (Fixed([["part a 3", "part a 1", "part a 3", "part a 1", "part b 0"]] * 2),
                     lambda beat, readings, opened: ("part a 3",) * 1000 + ("part a 1", "part b 0", "part a 1")):
            run = plain_run(rule, 2, t=3)
            self.assertEqual(run.looked, [("part a 3", "part a 1", "part b 0")] * 2)
            self.assertEqual(run.readings[1], tuple(run.worth(look) for look in run.looked[1]))
            self.assertEqual(run.glance(["part a 3"] * 9)[0], run.glance(("part a 3",))[0])
        run = plain_run(Fixed([["part a 0"] * 50]), 1)
        self.assertEqual(run.looked, [("part a 0",)])

    def test_rules_by_readings(self):
        table = [(["part a 0"], ["part a 1"])] + [([f"part p {at}"], [f"part q {at}"]) for at in range(3)]
        for source in sources(20):
            run = Run(Circuit(TEXT), Secrets([1], [[1]] * 4), Tape(random_bits(source, 200)), rule=ByParity(table))
            run.go(4)
            for at in range(4):
                odd = sum(bit for reading in run.readings[:at] for bit in reading) % 2
                self.assertEqual(run.looked[at], tuple(table[at][odd]))


class Making(unittest.TestCase):
    def make(self, **named):
        values = {"circuit": Circuit(TEXT), "secrets": Secrets([1], [[1]]), "tape": Tape([0] * 100), "rule": Rule()}
        return Run(**{**values, **named})

    def test_by_position(self):
        rule = Fixed([["part a 0"]])
        run = Run(Circuit(TEXT), Secrets([1], [[1]]), Tape([0] * 100), t=2, rule=rule, pieces=None, parts=None, refresh=True)
        self.assertEqual((run.t, run.step()), (2, (0,)))
        with self.assertRaises(TypeError):
            Run(Circuit(TEXT), Secrets([1]), Tape([0] * 100), 1, rule)
        with self.assertRaises(TypeError):
            Run(Circuit(TEXT), Secrets([1]), Tape([0] * 100))

    def test_parts(self):
        for value in ANY_VALUES + [10, 11, 3, 4.0, Tape([])]:
            if value is None or (type(value) is int and 2 <= value <= 10):
                self.assertEqual(self.make(parts=value).used, (value or 4) - 1)
                continue
            self.assertIs(raised(self, BadNumber, self.make, parts=value).value, value)
            self.assertIs(raised(self, BadNumber, self.make, parts=value, t=0).value, value)

    def test_t(self):
        for value in ANY_VALUES + [3, 4, 10, 11, 2.0]:
            number = type(value) is int
            if number and 1 <= value <= 3:
                self.assertEqual((self.make(t=value).t, self.make(t=value).used), (value, 3 * value))
            else:
                self.assertIs(raised(self, BadNumber, self.make, t=value).value, value)
            if number and 1 <= value <= 10:
                self.assertEqual(self.make(t=value, parts=2).t, value)
            else:
                self.assertIs(raised(self, BadNumber, self.make, t=value, parts=2).value, value)

    def test_secrets(self):
        for first, later, what in (([], [], "first"), ([1, 0], [[1]], "first"), ([1], [[]], "later"),
                                   ([1], [[1], [0, 1]], "later"), ([], [[0, 0]], "first"),
                                   ([1], [[1]] * 70 + [[]], "later")):
            self.assertEqual(raised(self, BadSecrets, self.make, secrets=Secrets(first, later)).what, what)
        for later in ([], [[1]], [[1]] * 70):
            self.assertEqual(self.make(secrets=Secrets([1], later)).beat, 0)

    def test_tape_for_the_door(self):
        text = "secret a from a\ncell b 1 from b\nsecret c from c\n"
        for t, n in ((1, 4), (2, 7), (3, 10)):
            for many in range(2 * (n - 1) + 2):
                values = {"circuit": Circuit(text), "secrets": Secrets([1, 0]), "tape": Tape([1] * many)}
                for more in ({"t": t}, {"t": 1, "parts": n}, {"parts": n, "refresh": False}):
                    if many < 2 * (n - 1):
                        self.assertEqual(raised(self, TapeEnds, self.make, **values, **more).at, 0)
                    else:
                        self.assertEqual(self.make(**values, **more).used, 2 * (n - 1))
        self.assertEqual(self.make(circuit=Circuit("cell b 1 from b\n"), secrets=Secrets([]), tape=Tape([])).used, 0)

    def test_pieces_that_are_not_taken_there(self):
        ring, product = taken("ring"), taken("product")
        refused = judge_piece(Piece("piece refresh 4\nout a0 a1 a2 a3\n"))
        self.assertFalse(refused.is_taken())
        wrong = {
            "product at a cell": {"a": product}, "refresh at an and": {"p": ring}, "at an xor": {"q": product},
            "at a not": {"r": product}, "at an in": {"x": ring}, "at no wire": {"z": ring}, "refused": {"a": refused},
            "a piece": {"a": ring.piece}, "None": {"a": None}, "True": {"a": True}, "a number": {"p": 1},
            "a string": {"a": "ring"}, "a list": {"a": [ring]}, "no string": {1: ring}, "None as key": {None: ring},
            "n 3": {"a": judge_piece(house_piece("refresh", 3))}, "n 2": {"p": judge_piece(house_piece("product", 2))},
            "t 2": {"a": judge_piece(house_piece("refresh", 4), t=2)},
            "t 3": {"a": judge_piece(house_piece("refresh", 4), t=3)},
        }
        for why, pieces in wrong.items():
            (name, piece), = pieces.items()
            self.assertIs(raised(self, NotTaken, self.make, pieces=pieces).name, name, why)
            for good in ({"b": ring}, {"p": product}):
                if name not in good:
                    self.assertIs(raised(self, NotTaken, self.make, pieces={**good, **pieces}).name, name, why)
            self.assertEqual(self.make(pieces=pieces, parts=4).beat, 0)
        # With t = 2 the pieces must have 7 parts, and be taken at 2.
        self.assertEqual(raised(self, NotTaken, self.make, pieces={"a": ring}, t=2).name, "a")
        two = judge_piece(house_piece("refresh", 4), t=2)
        self.assertEqual(raised(self, NotTaken, self.make, pieces={"a": two}, t=2).name, "a")
        for pieces in ({}, {"a": ring}, {"b": taken("refresh"), "p": product, "a": ring}):
            self.assertEqual(self.make(pieces=pieces).beat, 0)

    def test_the_least_name(self):
        ring, product = taken("ring"), taken("product")
        pieces = {"x": ring, "q": product, "b": None, "z": ring, "a": ring, "r": ring, "p": product}
        for order in itertools.islice(itertools.permutations(pieces), 0, 5040, 97):
            given = {name: pieces[name] for name in order}
            for name in ("b", "q", "r", "x", "z"):
                self.assertEqual(raised(self, NotTaken, self.make, pieces=given).name, name)
                del given[name]
            self.assertEqual(self.make(pieces=given).beat, 0)

    def test_several_at_once(self):
        faults = [("parts", 1, BadNumber), ("t", 0, BadNumber), ("secrets", Secrets([]), BadSecrets),
                  ("pieces", {"x": None}, NotTaken), ("tape", Tape([1]), TapeEnds)]
        for many in range(1, 6):
            for chosen in itertools.combinations(faults, many):
                named = {name: value for name, value, _ in chosen}
                error = raised(self, chosen[0][2], self.make, **named)
                if chosen[0][0] in ("parts", "t"):
                    self.assertEqual(error.value, chosen[0][1])
        self.assertEqual(raised(self, BadNumber, self.make, parts=2, t=11, secrets=Secrets([])).value, 11)
        self.assertEqual(raised(self, BadSecrets, self.make, secrets=Secrets([], [[], []])).what, "first")


class Stopping(unittest.TestCase):
    """A beat that cannot be done; whatever is raised, the run stands as before."""

    def refused(self, run, error, looks=(), **values):
        """By step, go and glance; what go has done ahead of the beat is undone."""
        before = standing(run)
        for call in (run.step, functools.partial(run.go, 1), functools.partial(run.go, 64),
                     functools.partial(run.glance, looks)):
            caught = raised(self, error, call)
            for name, value in values.items():
                self.assertEqual(getattr(caught, name), value)
            self.assertEqual(standing(run), before)
        return before

    def test_most_beats(self):
        run = plain_run(Rule(), 64, bits=2000, rows=[[1]] * 70)
        self.assertEqual((run.beat, len(run.readings)), (64, 64))
        self.refused(run, TooMany, what="beats", many=65)
        # Ahead of it all other errors wait.
        run = plain_run(Fixed([[]] * 64 + [None]), 64, bits=bits_needed(Circuit(TEXT), 64), rows=[[1]] * 64)
        self.refused(run, TooMany, None, what="beats", many=65)
        run = plain_run(Rule(), 0, bits=2000, rows=[[1]] * 64)
        run.go(64)
        self.assertEqual(run.beat, 64)
        self.assertEqual(raised(self, TooMany, run.go, 1).many, 65)
        run.go(0)
        run = plain_run(Rule(), 60, bits=2000, rows=[[1]] * 64)
        before = standing(run)
        self.assertEqual(raised(self, TooMany, run.go, 5).many, 65)
        self.assertEqual(standing(run), before)
        run.go(4)

    def test_too_few_later_rows(self):
        for many in range(4):
            rule = Asked()
            run = plain_run(rule, many, rows=[[1]] * many)
            self.refused(run, BadSecrets, what="later")
            self.assertEqual(len(rule.told), many)
            # It comes ahead of a tape that ends, and of what the rule tells.
            run = plain_run(Fixed([[]] * many + [["nope"]]), many, rows=[[1]] * many,
                            bits=bits_needed(Circuit(TEXT), many))
            self.refused(run, BadSecrets, ["nope"], what="later")
        # Without ins no rows are needed.
        run = Run(Circuit("cell a 0 from a\n"), Secrets([]), Tape([0] * 500), rule=Rule())
        run.go(64)
        run = Run(Circuit("cell a 0 from a\n"), Secrets([], [[]]), Tape([0] * 500), rule=Rule())
        run.go(64)

    def test_tapes(self):
        """A run needs just the bits that bits_needed tells: with one fewer its last beat cannot be done."""
        for source in sources(40):
            n, refresh = source.randint(2, 10), source.random() < 0.5
            case = Case(source, n=n, beats=source.randint(1, 4), refresh=refresh)
            circuit = Circuit(case.text)
            many = bits_needed(circuit, case.beats, parts=n, refresh=refresh)
            self.assertEqual(many, len(case.tape))
            run = made(case, Rule())
            run.go(case.beats)
            self.assertEqual(run.used, many)
            for less in (1, 2, 5, many):
                case.tape = case.tape[:max(many - less, 0)]
                ends = [bits_needed(circuit, beats, parts=n, refresh=refresh) for beats in range(case.beats + 1)]
                fit = [at for at, end in enumerate(ends) if end <= len(case.tape)]
                if not fit:
                    self.assertEqual(raised(self, TapeEnds, made, case, Rule()).at, 0)
                elif fit[-1] < case.beats:
                    rule = Asked()
                    run = made(case, rule)
                    self.assertEqual(raised(self, TapeEnds, run.go, case.beats).at, fit[-1])
                    self.assertEqual((run.beat, len(rule.told)), (0, fit[-1]))
                    run.go(fit[-1])
                    asked = len(rule.told)
                    for call in (run.step, functools.partial(run.glance, None)):
                        self.assertEqual(raised(self, TapeEnds, call).at, fit[-1])
                    self.assertEqual((run.beat, len(rule.told)), (fit[-1], asked))

    def test_wrong_looks(self):
        for at in range(3):
            good = list(all_looks(Circuit(TEXT), at))
            others = ["turn a 0 1", "row b 3 0"] if at == 0 else []
            others += ["part z 0", "part a 4", "turn a 1 0", "line p z01", "prod q 0 1", "turn p 0 1", "part a 0 ", ""]
            for value in others + ANY_VALUES:
                for told in ([value], (value,), ["part a 0", value], ["part a 0", "part a 0", value, "nope"],
                             good[:5] + [value], [value, None, value]):
                    run = plain_run(Fixed([[]] * at + [told]), at)
                    self.refused(run, BadLook, told, look=value)

    def test_what_is_no_list(self):
        for at in range(2):
            for value in ANY_VALUES + [{"part a 0": 1}, "part a 0", 5, Tape([])]:
                if not isinstance(value, (list, tuple)):
                    run = plain_run(Asked([[]] * at + [value]), at)
                    before = self.refused(run, BadLook, value, look=value)
                    self.assertEqual(before[0], at)

    def test_too_many_looks(self):
        looks = [f"part {wire} {i}" for wire in "abp" for i in range(4)]
        for t in (1, 2, 3):
            for many in range(13):
                told = looks[:many] + looks[:many // 2]
                run = plain_run(Fixed([[], told]), 1, t=t)
                if many <= t:
                    run.step()
                    self.assertEqual(run.looked[1], tuple(looks[:many]))
                else:
                    self.refused(run, TooMany, told, what="looks", many=many)
                    # A wrong look comes ahead of too many.
                    run = plain_run(Fixed([[], told + ["nope"]]), 1, t=t)
                    self.refused(run, BadLook, told + ["nope"], look="nope")
        # Bare runs: as many looks as they are told.
        for t in (1, 4, 10):
            run = plain_run(Fixed([looks[:t], looks[:t + 1]]), 1, t=t, parts=4)
            self.assertEqual(run.looked, [tuple(looks[:t])])
            before = (run.beat, run.looked, run.readings)
            for call in (run.step, functools.partial(run.go, 1)):
                error = raised(self, TooMany, call)
                self.assertEqual((error.what, error.many), ("looks", t + 1))
            self.assertEqual((run.beat, run.looked, run.readings), before)

    def test_several_at_once(self):
        short = bits_needed(Circuit(TEXT), 1)
        run = plain_run(Fixed([[], ["nope"]]), 1, rows=[[1]], bits=short)
        self.refused(run, BadSecrets, None, what="later")
        run = plain_run(Fixed([[], ["nope"]]), 1, bits=short)
        self.refused(run, TapeEnds, None, at=1)
        looks = ["part a 0", "part a 1", "nope", None]
        run = plain_run(Fixed([[], looks]), 1)
        self.refused(run, BadLook, looks, look="nope")
        run = plain_run(Fixed([[], looks[:2]]), 1)
        self.refused(run, TooMany, looks[:2], what="looks", many=2)

    def test_numbers_of_beats(self):
        for value in ANY_VALUES + [64, 65, 1.0, "3", Tape([])]:
            run = plain_run(Rule(), 1, bits=2000, rows=[[1]] * 80)
            if type(value) is int and 0 <= value <= 63:
                run.go(value)
                self.assertEqual(run.beat, 1 + value)
                continue
            if type(value) is int and value == 64:
                self.assertEqual(raised(self, TooMany, run.go, value).many, 65)
                continue
            before = standing(run)
            self.assertIs(raised(self, BadNumber, run.go, value).value, value)
            self.assertEqual(standing(run), before)
            # Also where no beat could be done.
            self.assertIs(raised(self, BadNumber, plain_run(Rule(), 0, rows=[]).go, value).value, value)
        run = plain_run(Rule(), 0)
        run.go(beats=2)
        self.assertEqual(run.beat, 2)


class Glancing(unittest.TestCase):
    def test_what_the_next_beat_would_give(self):
        for source in sources(60):
            case = Case(source, beats=4, laid=0.3)
            rule = Asked()
            run = made(case, rule, t=1, pieces=case.pieces)
            beside = case.covering()
            rows = plain_rows(Circuit(case.text), Secrets(case.first, case.later), 4)
            for at in range(4):
                looks = list(beside.looks[at])
                for look in source.sample(looks, min(len(looks), 10)):
                    told = [look] * source.randint(1, 3)
                    kept = list(told)
                    self.assertEqual(run.glance(looks=told), ((beside.looks[at][look],), rows[at]))
                    self.assertEqual(told, kept)
                self.assertEqual(run.glance([]), ((), rows[at]))
                self.assertEqual((run.beat, len(rule.told)), (at, at))
                run.step()

    def test_nothing_changes(self):
        run = plain_run(Fixed([["part a 0"], ["part a 1"], ["part a 2"]]), 2)
        before = standing(run)
        run.glance(["prod p 0 1"])
        run.glance(("turn b 0 1",))
        self.assertEqual(standing(run), before)
        run.step()
        self.assertEqual(run.looked[2], ("part a 2",))


class Branching(unittest.TestCase):
    def test_both_go_on_apart(self):
        rule = Asked([["part a 0"], ["part p 1"], ["turn a 1 2"], ["row b 3 0"]])
        for at in range(5):
            for named in ({}, {"t": 2}, {"parts": 4}, {"parts": 3, "refresh": False}, {"pieces": {"p": taken("product")}}):
                rule.rows[2] = ["part a 2"] if named.get("refresh") is False else ["turn a 1 2"]
                rule.rows[3] = ["part b 2"] if named.get("refresh") is False else ["row b 3 0"]
                run = plain_run(rule, at, **named)
                other = run.branch()
                self.assertIsNot(other, run)
                self.assertIs(type(other), Run)
                self.assertEqual(self.told(other), self.told(run))
                kept = self.told(run)
                other.go(4 - at)
                self.assertEqual(self.told(run), kept)
                done = self.told(other)
                run.go(4 - at)
                self.assertEqual((self.told(other), self.told(run)), (done, done))
                whole = plain_run(rule, 4, **named)
                self.assertEqual(self.told(whole), done)

    def told(self, run):
        parts = [run.parts(wire) for wire in "abxpqr"] if run.beat else None
        return run.beat, run.looked, run.readings, run.opened, run.used, run.ends, run.t, parts

    def test_the_same_rule(self):
        rule = Asked()
        run = plain_run(rule, 2)
        run.branch().branch().step()
        self.assertEqual([values[0] for values in rule.told], [0, 1, 2])
        # Of two branches with other readings, each tells the rule its own.
        other = run.branch()
        rule.rows = [[], [], ["part a 0"], []]
        run.step()
        rule.rows = [[], [], [], []]
        other.step()
        run.step()
        other.step()
        self.assertEqual([len(values[1][2]) for values in rule.told[-2:]], [1, 0])

    def test_branch_of_a_branch_stops_alike(self):
        run = plain_run(Rule(), 2, bits=bits_needed(Circuit(TEXT), 2))
        self.assertEqual(raised(self, TapeEnds, run.branch().step).at, 2)
        run = plain_run(Rule(), 3, rows=[[1]] * 3)
        self.assertEqual(raised(self, BadSecrets, run.branch().step).what, "later")


class Bounds(unittest.TestCase):
    def test_a_great_circuit(self):
        heads = [f"secret c{at} from g{4 * at + 3}" for at in range(120)] + [f"in x{at}" for at in range(16)]
        kinds = ("and", "xor", "and", "xor")
        gates = [f"g{at} = {f'g{at - 1}' if at else 'x0'} {kinds[at % 4]} {'c' if at % 2 else 'x'}{at % 16}"
                 for at in range(4000)]
        text = "".join(f"{line}\n" for line in heads + gates + ["open g3999"] * 8)
        circuit = Circuit(text)
        many = bits_needed(circuit, 2)
        source = sources(1)[0]
        secrets = Secrets(random_bits(source, 120), [random_bits(source, 16) for _ in range(2)])
        run = Run(circuit, secrets, Tape(random_bits(source, many)), rule=Fixed([["prod g0 0 1"], ["row c7 3 2"]]))
        run.go(2)
        self.assertEqual((run.opened, run.used), (plain_rows(circuit, secrets, 2), many))


if __name__ == "__main__":
    unittest.main()
