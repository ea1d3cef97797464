import itertools
import unittest

from judged import Counted, meeting, rows_of, truly_holds
from needleblind.errors import BadName, BadNumber, BadSecrets, TooMany
from needleblind.house import house_piece, ring_piece
from needleblind.judging import bad_items, counts, holds, judge_piece, least_meeting, lots, wrong_at
from needleblind.pieces import Piece
from support import ANY_VALUES, is_row, leaky_piece, raised, random_piece, sources

CHAIN = ("piece refresh 4\ncoin r01\ncoin r12\ncoin r23\ns01 = a0 xor r01\ns10 = a1 xor r01\ns12 = s10 xor r12\n"
         "s21 = a2 xor r12\ns23 = s21 xor r23\ns32 = a3 xor r23\nout s01 s12 s23 s32\n")
# A product in which the line y and the out s0 tell u together, which hangs on all numbers without any coin.
LEAKY = ("piece product 3\ncoin z01\ncoin z02\ncoin z12\np01 = a0 and b1\np02 = a0 and b2\np10 = a1 and b0\n"
         "p12 = a1 and b2\np20 = a2 and b0\np21 = a2 and b1\nq0 = a0 and b0\nq1 = a1 and b1\nq2 = a2 and b2\n"
         "x = z01 xor q0\ny = x xor z02\nt = p01 xor p12\nu = t xor p20\ns0 = y xor u\nv = z01 xor q1\n"
         "w = v xor p10\nx1 = w xor z12\ns1 = x1 xor p21\nx2 = q2 xor z02\ny2 = x2 xor p02\ns2 = y2 xor z12\n"
         "out s0 s1 s2\n")
# A refresh in which x0 and s10 tell together what none of them tells alone.
TOGETHER = ("piece refresh 3\ncoin r01\ncoin r02\ncoin r12\ns01 = a0 xor r01\nx0 = a2 and s01\ns02 = s01 xor r02\n"
            "s10 = a1 xor r01\ns12 = s10 xor r12\ns20 = a2 xor r02\ns21 = s20 xor r12\nout s02 s12 s21\n")
# A refresh whose coin hides the parts, but for the one who looks at the parts' xor.
OPEN_SUM = "piece refresh 2\ncoin r\nx = a0 xor a1\ns = a0 xor r\nu = x xor s\nout s u\n"


def t_numbers():
    return [value for value in ANY_VALUES if not (type(value) is int and 1 <= value <= 3)] + [4, 1.0, "1"]


def papers_near(paper):
    """Papers with one thing altered, at every place."""
    if isinstance(paper, tuple):
        yield list(paper)
        yield paper[:-1]
        yield paper + paper[-1:]
        yield from ((), None, True, 0, "", {}, [()], (None,), ((),), (0, 1), ("r01", "r01"))
        if len(paper) > 1:
            yield (paper[1], paper[0], *paper[2:])
        for at, item in enumerate(paper):
            for other in papers_near(item):
                yield paper[:at] + (other,) + paper[at + 1:]
        return
    yield from (None, "", (), True, False)
    if isinstance(paper, str):
        yield from ("lot", "wrong", "r01", "a0", paper + "x")
        return
    yield from (paper + 1, paper - 1, 1 - paper, str(paper), (paper,), [paper], bool(paper), 999999999)


def lists_deep(value):
    return [lists_deep(item) for item in value] if isinstance(value, tuple) else value


class Case(unittest.TestCase):
    def judged(self, text, t):
        """The piece is judged as plain counting judges it."""
        piece, counted = Piece(text), Counted(text)
        judgement = judge_piece(piece, t=t)
        paper = counted.paper(t)
        self.assertIs(judgement.is_taken(), paper is None)
        self.assertEqual(type(judgement).__name__, "Taken" if paper is None else "Refused")
        self.assertEqual((judgement.piece, judgement.t), (piece, t))
        if paper is not None:
            self.assertEqual(judgement.paper(), paper, text)
            self.assertIs(holds(piece, judgement.paper(), t=t), True)
            return judgement
        for lot in counted.lots(t):
            self.assertEqual(judgement.numbers(lot), counted.numbers(counted.bad(lot)), (text, lot))
        return judgement


class Counting(Case):
    def test_by_hand(self):
        piece = Piece(OPEN_SUM)
        self.assertEqual(counts(piece, (), (0, 1), 0), {(0,): 1, (1,): 1})
        self.assertEqual(counts(piece, ("r", "s"), (1, 1), 0), {(0, 1, 1): 1, (1, 0, 0): 1})
        self.assertEqual(counts(piece, ("x",), (0, 1), 1), {(1, 0): 1, (1, 1): 1})
        self.assertEqual(counts(piece=piece, lot=["x"], parts=[0, 1], without=1), {(1, 0): 1, (1, 1): 1})
        self.assertEqual(counts(Piece("piece refresh 2\ncoin r\ncoin s\nout a1 a0\n"), (), (0, 1), 0), {(0,): 4})

    def test_beside_plain_counting(self):
        for source in sources(60):
            text = random_piece(source)
            piece, counted = Piece(text), Counted(text)
            for _ in range(6):
                lot = [name for name in counted.names if source.random() < 0.3]
                row = source.choice(counted.parts)
                without = source.randrange(piece.n)
                told = counts(piece, source.choice((list, tuple))(lot), list(row), without)
                self.assertEqual(told, dict(counted.counts(lot, row, without)))
                self.assertEqual((type(told), {type(reading) for reading in told}), (dict, {tuple}))
                self.assertEqual(bad_items(piece, lot), counted.bad(lot))

    def test_many_rows_of_coins(self):
        # More rows of coins than are worked out at once.
        coins = [f"c{at}" for at in range(12)]
        lines = [f"coin {name}" for name in coins] + ["x0 = c0 xor c1"]
        lines += [f"x{at} = x{at - 1} xor c{at + 1}" for at in range(1, 11)] + ["s = a0 xor x10", "u = a1 xor x10"]
        piece = Piece("".join(f"{line}\n" for line in ["piece refresh 2", *lines, "out s u"]))
        self.assertEqual(counts(piece, (), (0, 1), 0), {(0,): 2048, (1,): 2048})
        self.assertEqual(counts(piece, ("c0", "c11"), (1, 0), 1),
                         {reading: 512 for reading in itertools.product((0, 1), repeat=3)})
        self.assertTrue(judge_piece(piece).is_taken())

    def test_errors(self):
        piece = Piece(CHAIN)
        for call in (lambda lot, parts=(0,) * 4: counts(piece, lot, parts, 0), lambda lot, parts=None: bad_items(piece, lot)):
            for lot in ANY_VALUES + ["r01", piece]:
                if type(lot) not in (list, tuple):
                    self.assertIs(raised(self, BadName, call, lot).value, lot)
                    self.assertIs(raised(self, BadName, call, lot, None).value, lot)
                elif lot:
                    self.assertIs(raised(self, BadName, call, lot).value, lot[0])
            for item in ANY_VALUES + ["a0", "x", "out", piece]:
                self.assertIs(raised(self, BadName, call, ["r01", item, "r01", None]).value, item)
            for lot, wrong in ((("r01", "r01"), "r01"), (("r12", "r01"), "r01"), (("s01", "r23", "zz"), "r23"),
                               (["r01", "s12", "s10"], "s10"), (["r01", "a0"], "a0"), (["b0", "a0"], "b0")):
                self.assertEqual(raised(self, BadName, call, lot).value, wrong)
                self.assertEqual(raised(self, BadName, call, lot, [2]).value, wrong)
        for parts in ANY_VALUES + [[0, 0, 0, True], "0000", [0, 0, 0, 2], [0] * 5]:
            if not is_row(parts, 4):
                self.assertEqual(raised(self, BadSecrets, counts, piece, ("r01",), parts, 0).what, "parts")

    def test_what_is_told_and_passed(self):
        piece, lot, parts = Piece(OPEN_SUM), ["r", "s"], [1, 1]
        counts(piece, lot, parts, 0).clear()
        bad_items(piece, lot)
        self.assertEqual((lot, parts), (["r", "s"], [1, 1]))
        self.assertEqual(len(counts(piece, lot, parts, 0)), 2)


class WrongAt(Case):
    def test_beside_plain_counting(self):
        found = {}
        for source in sources(120):
            text = random_piece(source, right=source.random() < 0.5)
            self.assertEqual(wrong_at(Piece(text)), Counted(text).wrong())
            found[Counted(text).wrong() is None] = True
        self.assertEqual(len(found), 2)

    def test_by_hand(self):
        self.assertIsNone(wrong_at(Piece(CHAIN)))
        self.assertIsNone(wrong_at(Piece(LEAKY)))
        self.assertEqual(wrong_at(Piece("piece refresh 2\ncoin r\nout a0 r\n")), ((0, 0), (1,)))
        self.assertEqual(wrong_at(Piece("piece refresh 2\nout a0 a0\n")), ((0, 1), ()))
        self.assertEqual(wrong_at(Piece("piece product 2\ncoin r\nc = a0 and a1\nd = c and b0\ne = d and b1\n"
                                        "f = e and r\ng = f xor r\nout g r\n")), ((0, 1, 0, 1), (0,)))
        last = ("piece product 2\nw = a0 xor a1\nx = b0 xor b1\ny = w and x\ncoin r\nz = a0 and a1\nv = b0 and b1\n"
                "u = z and v\ns = u and r\nq = y xor s\np = s xor s\nout q p\n")
        self.assertEqual(wrong_at(Piece(last)), ((1, 1, 1, 1), (1,)))


class Lots(Case):
    def test_order(self):
        piece = Piece("piece refresh 2\ncoin z\ncoin y\nx = not z\nout x y\n")
        self.assertEqual(list(lots(piece, 1)), [(), ("z",), ("y",), ("x",)])
        self.assertEqual(list(lots(piece=piece, t=2)), [(), ("z",), ("y",), ("x",), ("z", "y"), ("z", "x"), ("y", "x")])
        self.assertEqual(list(lots(piece, 3))[-1], ("z", "y", "x"))
        self.assertEqual(list(lots(Piece("piece refresh 2\nout a0 a1\n"), 3)), [()])
        for t in (1, 2, 3):
            self.assertEqual(list(lots(Piece(CHAIN), t)), Counted(CHAIN).lots(t))
        told = lots(piece, 1)
        self.assertEqual((next(told), next(told)), ((), ("z",)))


class LeastMeeting(Case):
    def test_by_hand(self):
        self.assertEqual(least_meeting([]), ())
        self.assertEqual(least_meeting(()), ())
        self.assertEqual(least_meeting([(3, 3)]), (3,))
        self.assertEqual(least_meeting([(3, 1), (1, 3)]), (1,))
        self.assertEqual(least_meeting([(0, 9), (9, 1), (2, 9)]), (9,))
        self.assertEqual(least_meeting(pairs=[(4, 4), (0, 4), (5, 6), (6, 5), (5, 6)]), (4, 5))
        self.assertEqual(least_meeting([(0, 2), (0, 3), (1, 2), (1, 3), (2, 0), (3, 0), (2, 1), (3, 1)]), (0, 1))
        self.assertEqual(least_meeting([(at, at) for at in range(10)]), tuple(range(10)))

    def test_beside_all_meetings(self):
        for source in sources(80):
            pairs = [(source.randrange(10), source.randrange(10)) for _ in range(source.randint(0, 12))]
            kept = list(pairs)
            self.assertEqual(least_meeting(pairs), meeting(pairs))
            self.assertEqual(pairs, kept)


class Judging(Case):
    def test_worked_calls(self):
        self.assertTrue(judge_piece(ring_piece(4)).is_taken())
        paper = judge_piece(Piece(CHAIN), t=1).paper()
        self.assertEqual([paper[0], paper[1], paper[2]], ["lot", ("r12",), (0, 1)])
        self.assertEqual(judge_piece(Piece(LEAKY)).paper()[:3], ("lot", ("y",), (0, 1, 2)))
        self.assertEqual(judge_piece(Piece(OPEN_SUM)).paper()[:3], ("lot", ("x",), (0, 1)))
        self.assertEqual(bad_items(Piece(CHAIN), ("r12",)),
                         ((0, 2), (0, 3), (1, 2), (1, 3), (2, 0), (2, 1), (3, 0), (3, 1)))

    def test_house_and_ring(self):
        for n in (2, 3, 4):
            for t in (1, 2, 3) if n < 4 else (1,):
                self.judged(house_piece("refresh", n).text(), t)
        for n in (2, 3):
            self.judged(house_piece("product", n).text(), 1)
        for n in (3, 4, 5):
            for t in (1, 2):
                self.judged(ring_piece(n).text(), t)
        self.judged(CHAIN, 1)
        self.judged(LEAKY, 1)
        self.judged(OPEN_SUM, 1)

    def test_house_product_with_4_parts(self):
        piece = house_piece("product", 4)
        taken = judge_piece(piece)
        self.assertTrue(taken.is_taken())
        # Look by look, the numbers of [20].
        expected = {"p": lambda i, j: (i, j), "h": lambda i, j: (i, j)}
        for name, kind, _, _ in piece.lines():
            told = taken.numbers([name])
            if name[0] in expected:
                self.assertLessEqual(set(told), set(map(int, name[1:])))
            else:
                self.assertLessEqual(set(told), {int(name[1])}, name)
        self.assertEqual(taken.numbers(()), ())

    def test_random_pieces(self):
        found = {}
        for source in sources(140):
            kind = source.choice(("product", "refresh"))
            right = source.random() < 0.8
            n = source.randint(2, 3)
            coins = n - 1 + source.randint(0, 2)
            text = random_piece(source, kind, n, coins, source.randint(0, 6), right)
            t = source.choice((1, 1, 2))
            judgement = self.judged(text, t)
            paper = None if judgement.is_taken() else judgement.paper()
            found[kind, paper and paper[0], paper and paper[0] == "lot" and len(paper[1])] = True
        self.assertIn(("refresh", "lot", 0), found)
        self.assertIn(("product", "lot", 0), found)
        self.assertIn(("refresh", "wrong", False), found)

    def test_house_pieces_with_lines_in_another_order(self):
        # The sums are put together from other terms; looks at these tell more, or not.
        found = {}
        for source in sources(60):
            lines = house_piece("refresh", source.choice((3, 4))).text().split("\n")[:-1]
            head, body, out = lines[0], lines[1:-1], lines[-1]
            at = source.randrange(len(body))
            words = body[at].split()
            if words[0] == "coin":
                continue
            others = [line.split()[-1] if line.startswith("coin") else line.split()[0] for line in body[:at]]
            words[source.choice((2, 4))] = source.choice(others)
            body[at] = " ".join(words)
            judgement = self.judged("".join(f"{line}\n" for line in [head, *body, out]), 1)
            found[judgement.is_taken() or judgement.paper()[0]] = True
        self.assertIn("wrong", found)

    def test_pieces_with_lines_that_tell_more(self):
        found = {}
        for source in sources(90):
            piece, t = source.choice(((house_piece("refresh", 2), 1), (house_piece("refresh", 3), 1),
                                      (house_piece("product", 2), 1), (ring_piece(4), 1)))
            judgement = self.judged(leaky_piece(source, piece.text(), source.randint(1, 5)), t)
            if judgement.is_taken():
                found[piece.kind] = True
                continue
            _, lot, _, shown = judgement.paper()
            counted = Counted(judgement.piece.text())
            for item, first, second, reading, _, _ in shown:
                rows = [counted.counts(lot, row, counted.places(item)[1]) for row in (first, second)]
                # Whether the least reading is the least one of those that are given at all.
                found[piece.kind, reading == min([*rows[0], *rows[1]])] = True
        self.assertLessEqual({"product", "refresh", ("refresh", True), ("refresh", False)}, set(found))
        for source in sources(8):
            self.judged(leaky_piece(source, house_piece("product", 3).text(), 3), 1)

    def test_readings_with_bits_of_the_lot(self):
        # For some items the least readings have a 1 in the lot.
        self.assertEqual(judge_piece(Piece(TOGETHER), t=2).paper()[3][-1],
                         ((2, 2), (0, 0, 0), (0, 0, 1), (0, 1, 0, 0), 1, 0))
        self.judged(TOGETHER, 1)
        self.judged(TOGETHER, 2)

    def test_t_decides(self):
        # The ring with 4 parts is taken at 1 alone.
        self.assertTrue(judge_piece(ring_piece(4), t=1).is_taken())
        for t in (2, 3):
            paper = judge_piece(ring_piece(4), t=t).paper()
            self.assertEqual(paper[:3], ("lot", ("s01", "s21"), (0, 1, 2)))

    def test_errors(self):
        piece = ring_piece(4)
        for t in t_numbers():
            self.assertIs(raised(self, BadNumber, judge_piece, piece, t=t).value, t)
        lines = [f"coin c{at}" for at in range(10)]
        for t, most, many in ((1, 80, 0), (2, 44, 1036), (3, 18, 1160)):
            gates = [f"g{at} = not a0" for at in range(most - 10)]
            head = ["piece refresh 4", *lines]
            text = "".join(f"{line}\n" for line in head + gates + ["out a0 a0 a0 a0"])
            self.assertEqual(judge_piece(Piece(text), t=t).paper()[0], "wrong")
            if many:
                text = "".join(f"{line}\n" for line in head + gates + ["h = not a0", "out a0 a0 a0 a0"])
                error = raised(self, TooMany, judge_piece, Piece(text), t=t)
                self.assertEqual((error.what, error.many), ("lots", many))
        error = raised(self, TooMany, judge_piece, house_piece("product", 4), t=2)
        self.assertEqual((error.what, error.many), ("lots", 1 + 46 + 46 * 45 // 2))
        error = raised(self, TooMany, judge_piece, house_piece("product", 4), t=3)
        self.assertEqual((error.what, error.many), ("lots", 1 + 46 + 46 * 45 // 2 + 46 * 45 * 44 // 6))

    def test_numbers(self):
        taken = judge_piece(house_piece("refresh", 4), t=2)
        self.assertEqual(taken.numbers(["s01", "s12"]), taken.numbers(lot=("s01", "s12")))
        self.assertEqual(type(taken.numbers(["s01"])), tuple)
        for lot in ANY_VALUES + ["s01", taken]:
            if type(lot) not in (list, tuple):
                self.assertIs(raised(self, BadName, taken.numbers, lot).value, lot)
            elif lot:
                self.assertIs(raised(self, BadName, taken.numbers, lot).value, lot[0])
        self.assertEqual(raised(self, BadName, taken.numbers, ("s12", "s01", "r01")).value, "s01")
        self.assertEqual(raised(self, BadName, taken.numbers, ("r01", "r02", "r03", "a0")).value, "a0")
        error = raised(self, TooMany, taken.numbers, ("r01", "r02", "r03"))
        self.assertEqual((error.what, error.many), ("looks", 3))
        error = raised(self, TooMany, judge_piece(ring_piece(4)).numbers, ["r01", "r12", "s01"])
        self.assertEqual((error.what, error.many), ("looks", 3))

    def test_beside_bad_items(self):
        taken = judge_piece(house_piece("refresh", 4), t=3)
        for at, lot in enumerate(lots(taken.piece, 3)):
            if at % 40 == 0:
                self.assertEqual(taken.numbers(lot), least_meeting(bad_items(taken.piece, lot)))


class Holding(Case):
    def altered(self, text, t):
        piece, counted = Piece(text), Counted(text)
        paper = judge_piece(piece, t=t).paper()
        self.assertTrue(truly_holds(counted, paper, t))
        held = 0
        for other in papers_near(paper):
            expected = truly_holds(counted, other, t)
            held += expected
            self.assertIs(holds(piece, other, t=t), expected, (text, other))
        self.assertIs(holds(piece, lists_deep(paper), t=t), False)
        return held

    def test_altered_papers(self):
        for text, t in ((CHAIN, 1), (OPEN_SUM, 1), (LEAKY, 1), (OPEN_SUM, 2), (TOGETHER, 2),
                        ("piece refresh 2\ncoin r\nout a0 r\n", 1),
                        ("piece product 2\ncoin r\nout a0 r\n", 1),
                        ("piece product 2\nw = a0 xor a1\nx = b0 xor b1\ny = w and x\ncoin r\nz = r xor r\nout z y\n", 1),
                        (ring_piece(4).text(), 2)):
            self.altered(text, t)

    def test_altered_papers_of_random_pieces(self):
        held = 0
        for source in sources(25):
            text = random_piece(source, None, 2, source.randint(1, 2), source.randint(0, 4), source.random() < 0.7)
            if not judge_piece(Piece(text)).is_taken():
                held += self.altered(text, 1)
        self.assertGreater(held, 0)

    def test_other_rows_readings_and_lots(self):
        for text, t in ((CHAIN, 1), (LEAKY, 1), (OPEN_SUM, 1)):
            piece, counted = Piece(text), Counted(text)
            judgement = judge_piece(piece, t=t)
            for lot in counted.lots(t):
                items = counted.bad(lot)
                if len(counted.numbers(items)) <= counted.allowed(lot):
                    continue
                shown = tuple(self.entry(counted, lot, item, turn) for turn, item in enumerate(items))
                self.assertIs(holds(piece, ("lot", lot, counted.numbers(items), shown), t=t), True)
                self.assertFalse(judgement.is_taken())

    def entry(self, counted, lot, item, turn):
        """The last rows and reading that show an item, not the least ones, in either order."""
        without = counted.places(item)[1]
        for first, second in itertools.combinations(reversed(counted.parts), 2):
            one, other = (counted.counts(lot, row, without) for row in (first, second))
            if counted.alike(item, first, second) and one != other:
                reading = max(reading for reading in {**one, **other} if one[reading] != other[reading])
                if turn % 2:
                    return (item, second, first, reading, other[reading], one[reading])
                return (item, first, second, reading, one[reading], other[reading])
        return None

    def test_fewer_items(self):
        piece, counted = Piece(CHAIN), Counted(CHAIN)
        _, lot, _, shown = judge_piece(piece).paper()
        held = 0
        for many in range(len(shown) + 1):
            for entries in itertools.combinations(shown, many):
                numbers = meeting([entry[0] for entry in entries])
                expected = len(numbers) > 1
                held += expected
                self.assertIs(holds(piece, ("lot", lot, numbers, entries)), expected)
                self.assertEqual(truly_holds(counted, ("lot", lot, numbers, entries), 1), expected)
        self.assertGreater(held, 10)
        # Not ascending, and one item twice.
        self.assertIs(holds(piece, ("lot", lot, (0, 1), shown[::-1])), False)
        self.assertIs(holds(piece, ("lot", lot, (0, 1), (shown[0], *shown))), False)

    def test_all_wrong_rows(self):
        for text in ("piece refresh 2\ncoin r\ns = a0 and r\nout a1 s\n", "piece product 2\ncoin r\ns = a0 xor b1\nout r s\n"):
            piece, counted = Piece(text), Counted(text)
            for parts in counted.parts:
                for coins in rows_of(len(counted.coins)):
                    paper = ("wrong", parts, coins)
                    self.assertIs(holds(piece, paper), truly_holds(counted, paper, 1))
                    self.assertIs(holds(piece, ("wrong", list(parts), coins)), False)

    def test_second_form_for_a_wrong_piece(self):
        # Nothing is hidden: each number is bad for the empty lot.
        piece = Piece("piece product 2\nout a0 a0\n")
        self.assertEqual(judge_piece(piece).paper()[0], "wrong")
        paper = ("lot", (), (0,), ((0, (0, 0, 0, 0), (1, 0, 0, 0), (0,), 1, 0),))
        self.assertIs(holds(piece, paper), True)
        self.assertIs(holds(piece, ("lot", (), (0,), ((0, (1, 0, 0, 0), (0, 0, 0, 0), (0,), 0, 1),))), True)
        self.assertIs(holds(piece, ("lot", (), (0,), ((0, (1, 0, 0, 0), (0, 0, 0, 0), (1,), 1, 0),))), True)
        self.assertIs(holds(piece, ("lot", (), (0,), ((0, (1, 0, 0, 0), (0, 1, 0, 0), (1,), 1, 0),))), False)
        self.assertIs(holds(piece, ("lot", (), (0,), ((0, (1, 0, 0, 0), (0, 0, 1, 0), (1,), 1, 0),))), True)

    def test_lots_of_more_than_t_lines(self):
        piece = ring_piece(4)
        paper = judge_piece(piece, t=2).paper()
        self.assertIs(holds(piece, paper), False)
        self.assertIs(holds(piece, paper, t=2), True)
        self.assertIs(holds(piece=piece, paper=paper, t=3), True)

    def test_any_value(self):
        pieces = [Piece(CHAIN), ring_piece(4), Piece("piece refresh 2\ncoin r\nout a0 r\n")]
        more = [("wrong",), ("lot",), ("wrong", (), ()), ("lot", (), (), ()), ("wrong", (0, 0, 0, 0), (0, 0, 0)),
                ("lot", ("r12",), (0, 1), ()), ("lot", (), (0,), ()), "wrong", ["wrong", (0, 0), (1,)], {"wrong": 1}]
        for piece in pieces:
            for value in ANY_VALUES + more + pieces:
                self.assertIs(holds(piece, value), False, value)
        self.assertIs(holds(pieces[2], ("wrong", (0, 0), (1,))), True)

    def test_numbers_of_t(self):
        for t in t_numbers():
            self.assertIs(raised(self, BadNumber, holds, Piece(CHAIN), None, t=t).value, t)


if __name__ == "__main__":
    unittest.main()
