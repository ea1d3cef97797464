import itertools
import unittest

from needleblind.circuits import Circuit
from needleblind.errors import BadLook
from needleblind.plain import Secrets
from needleblind.rules import ByParity, Fixed, Rule
from needleblind.runs import Run
from needleblind.tapes import Tape
from support import ANY_VALUES, raised, random_bits, sources


def both(rule, beat, readings, opened):
    """What a rule tells, called and by told, which must be two lists that are alike."""
    called, told = rule(beat, readings, opened), rule.told(beat, readings, opened)
    assert type(called) is list and called == told and called is not told
    return called


class Rules(unittest.TestCase):
    def test_rule(self):
        for beat, readings, opened in ((0, [], []), (3, [(1,), (0,), ()], [(), (), ()]), (63, [(1,)] * 63, [(0,)] * 63)):
            self.assertEqual(both(Rule(), beat, readings, opened), [])
        self.assertEqual(Rule().told(beat=0, readings=[], opened=[]), [])
        self.assertEqual(Rule()(beat=0, readings=[], opened=[]), [])
        for made in (Rule, Fixed, ByParity):
            self.assertIn("told", vars(made))
        self.assertTrue(issubclass(Fixed, Rule) and issubclass(ByParity, Rule))
        self.assertFalse(issubclass(ByParity, Fixed) or issubclass(Fixed, ByParity))

    def test_fixed(self):
        for rows in ([["part a 0"], [], ["a", "b", "a"]], (("part a 0",), (), ("a", "b", "a")),
                     [("part a 0",), [], ("a", "b", "a")]):
            rule = Fixed(rows)
            for beat, expected in enumerate((["part a 0"], [], ["a", "b", "a"], [], [])):
                for readings in ([], [(1,)] * beat):
                    self.assertEqual(both(rule, beat, readings, []), expected)
            self.assertEqual(both(rule, 63, [], []), [])
        self.assertEqual(both(Fixed([]), 0, [], []), [])
        self.assertEqual(both(Fixed(rows=[["x"]]), 0, [], []), ["x"])
        self.assertEqual(Fixed([["x"]]).told(beat=0, readings=[], opened=[]), ["x"])

    def test_by_parity(self):
        table = [(["e0"], ["o0"]), ([], ["o1", "x"]), (["e2", "e2"], [])]
        for told in (table, [list(pair) for pair in table], tuple(table), [(tuple(e), tuple(o)) for e, o in table]):
            rule = ByParity(told)
            for many in range(4):
                for bits in itertools.product((0, 1), repeat=many):
                    for cut in range(many + 1):
                        readings = [bits[:cut], (), bits[cut:]]
                        for beat, pair in enumerate(table):
                            self.assertEqual(both(rule, beat, readings, [(1,)]), pair[sum(bits) % 2])
                        for beat in (3, 4, 63):
                            self.assertEqual(both(rule, beat, readings, []), [])
        self.assertEqual(both(ByParity([]), 0, [], []), [])
        self.assertEqual(both(ByParity(table=table), 0, [], []), ["e0"])
        # The opened rows do not count.
        self.assertEqual(both(ByParity(table), 1, [(0,)], [(1,)]), [])
        self.assertEqual(both(ByParity(table), 1, [(1,)], [(1,)]), ["o1", "x"])

    def test_what_was_passed_may_be_changed(self):
        rows = [["a"], ["b"]]
        rule = Fixed(rows)
        rows[0].append("c")
        rows[1][0] = "d"
        rows.append(["e"])
        self.assertEqual([both(rule, beat, [], []) for beat in range(3)], [["a"], ["b"], []])
        table = [[["a"], ["b"]], [["c"], ["d"]]]
        rule = ByParity(table)
        table[0][0].append("x")
        table[0][1] = ["x"]
        table[1].clear()
        table.pop()
        self.assertEqual([both(rule, beat, readings, []) for beat in range(3) for readings in ([(0,)], [(1,)])],
                         [["a"], ["b"], ["c"], ["d"], [], []])
        deep = [[["a", {"b": ["c"]}]]]
        rule = Fixed(deep)
        deep[0][0][1]["b"].append("d")
        self.assertEqual(both(rule, 0, [], []), [["a", {"b": ["c"]}]])
        inner = ["a"]
        rule = Fixed([([inner], (inner,))])
        inner.append("b")
        rule(0, [], [])[1][0].append("c")
        self.assertEqual(both(rule, 0, [], []), [[["a"]], (["a"],)])

    def test_what_is_told_may_be_changed(self):
        for rule in (Rule(), Fixed([["a", "b"], []]), ByParity([(["a", "b"], ["c"]), ([], [])])):
            for beat in (0, 1, 2):
                before = list(rule(beat, [], []))
                for told in (rule(beat, [], []), rule.told(beat, [], [])):
                    told.append("x")
                    told[0] = "y"
                self.assertEqual(both(rule, beat, [], []), before)
        rule = Fixed([[["a"]]])
        rule(0, [], [])[0].append("b")
        self.assertEqual(rule(0, [], []), [["a"]])

    def test_what_is_passed_stays(self):
        rows, table = [["a"], ("b",)], [[["a"], ("b",)]]
        readings, opened = [(1,), (0, 1)], [(1,), ()]
        for rule in (Rule(), Fixed(rows), ByParity(table)):
            both(rule, 0, readings, opened)
            self.assertEqual((rows, table), ([["a"], ("b",)], [[["a"], ("b",)]]))
            self.assertEqual((readings, opened), ([(1,), (0, 1)], [(1,), ()]))

    def test_what_they_tell_is_not_looked_at(self):
        circuit, tape = Circuit("secret a from a\n"), Tape([0] * 9)
        for value in ANY_VALUES:
            for rule in (Fixed([[value]]), ByParity([([value], [])])):
                self.assertEqual(rule(0, [], []), [value])
                run = Run(circuit, Secrets([0]), tape, rule=rule)
                self.assertEqual(raised(self, BadLook, run.step).look, value)
            if not isinstance(value, (list, tuple)):
                run = Run(circuit, Secrets([0]), tape, rule=Fixed([value]))
                self.assertEqual(raised(self, BadLook, run.step).look, value)

    def test_subclass_with_its_own_told(self):
        class Last(Rule):
            def told(self, beat, readings, opened):
                return [f"part a {sum(bit for row in readings for bit in row) + len(opened)}"]

        class Plain:
            def __call__(self, beat, readings, opened):
                return (f"part a {beat}",)

        circuit = Circuit("cell a 1 from b\nb = not a\n")
        for source in sources(10):
            tape = Tape(random_bits(source, 12))
            run = Run(circuit, Secrets([]), tape, rule=Last())
            run.go(2)
            self.assertEqual(run.looked, [("part a 0",), ("part a 2",)])
            self.assertEqual(Last()(2, [(1,), (1,)], [(), ()]), ["part a 4"])
            for rule in (Plain(), lambda beat, readings, opened: [f"part a {beat}"], Fixed([["part a 0"], ["part a 1"]])):
                run = Run(circuit, Secrets([]), tape, rule=rule)
                run.go(2)
                self.assertEqual(run.looked, [("part a 0",), ("part a 1",)])


if __name__ == "__main__":
    unittest.main()
