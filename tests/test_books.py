import itertools
import random
import re
import unittest

from covered import Case, random_rule, taken
from needleblind.books import Book, book_of, replay, take_up
from needleblind.circuits import Circuit
from needleblind.errors import BadBook, BadLook, BadNumber, BadSecrets, NotTaken, TapeEnds, TooMany
from needleblind.plain import Secrets
from needleblind.rules import Fixed, Rule
from needleblind.runs import Run
from needleblind.tapes import Tape, bits_needed
from support import ANY_VALUES, raised, random_bits, sources

TEXT = "secret a from p\ncell b 1 from a\nin x\np = a and x\nq = p xor b\nopen q\nopen a\n"
GOOD = ("book 2\nread prod p 0 1 = 1\nread part a 3 = 0\nopen 01\nused 12\nopen -\nused 12\nread line b r01 = 0\n"
        "open 1\nused 9999999\n")
BARRED = ("and", "cell", "coin", "from", "in", "not", "open", "out", "piece", "secret", "xor")


def beat_lines(looks, reading, opened, used):
    """The lines of a beat, written anew."""
    bits = "".join(map(str, opened)) or "-"
    return [f"read {look} = {bit}" for look, bit in zip(looks, reading)] + [f"open {bits}", f"used {used}"]


def written(t, rows):
    return "".join(f"{line}\n" for line in [f"book {t}", *(line for row in rows for line in beat_lines(*row))])


def name_form(word):
    return re.fullmatch("[a-z][a-z0-9]{0,7}", word) is not None and word not in BARRED


def look_form(look):
    words = look.split(" ")
    if len(words) < 3 or not name_form(words[1]):
        return False
    if words[0] == "line":
        return len(words) == 3 and name_form(words[2])
    if not all(re.fullmatch("[0-9]", word) for word in words[2:]):
        return False
    if len(words) == 3:
        return words[0] == "part"
    if len(words) != 4:
        return False
    i, j = words[2:]
    return {"turn": i < j, "coin": i < j, "half": i < j, "back": i > j, "row": i != j, "prod": i != j,
            "sum": True}.get(words[0], False)


def first_fault(text):
    """The line that BadBook should have, or None for a book."""
    if not isinstance(text, str):
        return 0
    lines = text.split("\n")
    whole = lines[-1] == ""
    if whole:
        lines.pop()
    t, looks, opened = None, [], False
    for at, line in enumerate(lines, 1):
        if at == len(lines) and not whole:
            return at
        if t is None:
            if re.fullmatch("book [123]", line) is None:
                return at
            t = int(line[-1])
        elif opened:
            if re.fullmatch("used (0|[1-9][0-9]{0,6})", line) is None:
                return at
            looks, opened = [], False
        elif re.fullmatch("open (-|[01]+)", line):
            opened = True
        else:
            found = re.fullmatch("read (.*) = [01]", line)
            if found is None or not look_form(found[1]) or found[1] in looks or len(looks) == t:
                return at
            looks.append(found[1])
    return None if t is not None and not looks and not opened else len(lines) + 1


class Reading(unittest.TestCase):
    def check(self, text):
        line = first_fault(text)
        if line is None:
            self.assertEqual(Book(text).text(), text)
        else:
            self.assertEqual(raised(self, BadBook, Book, text).line, line, text)
        return line

    def test_what_is_told(self):
        book = Book(GOOD)
        self.assertEqual((book.t, len(book), book.text(), str(book), repr(book)), (2, 3, GOOD, GOOD, "Book(3 beats)"))
        rows = [(("prod p 0 1", "part a 3"), (1, 0), (0, 1), 12), ((), (), (), 12), (("line b r01",), (0,), (1,), 9999999)]
        self.assertEqual(book.rows(), rows)
        self.assertEqual([type(item) for row in book.rows() for item in (row, *row)], ([tuple] * 4 + [int]) * 3)
        book.rows().clear()
        book.rows()[0] = None
        self.assertEqual(book.rows(), rows)
        self.assertEqual(Book(text="book 3\n").rows(), [])
        self.assertEqual((len(Book("book 3\n")), repr(Book("book 1\n")), Book("book 3\n").t), (0, "Book(0 beats)", 3))
        self.assertEqual(repr(Book("book 1\nopen -\nused 0\n")), "Book(1 beats)")

    def test_equal(self):
        book = Book(GOOD)
        self.assertTrue(book == Book(GOOD))
        self.assertFalse(book != Book(GOOD))
        for other in (Book(GOOD.replace("used 12", "used 13")), Book(GOOD.replace("book 2", "book 3")), Book("book 2\n"),
                      Book(GOOD + "open -\nused 1\n")):
            self.assertFalse(book == other)
            self.assertTrue(book != other)
        for value in ANY_VALUES + [GOOD, Tape([]), Circuit("")]:
            self.assertFalse(book == value)

    def test_cut(self):
        book, lines = Book(GOOD), GOOD.splitlines(True)
        for beats, many in ((0, 1), (1, 5), (2, 7), (3, 10)):
            cut = book.cut(beats)
            self.assertEqual((cut.text(), len(cut), cut.t), ("".join(lines[:many]), beats, 2))
            self.assertEqual(book.cut(beats=beats), cut)
            self.assertEqual(cut.rows(), book.rows()[:beats])
        for value in ANY_VALUES + [3, 4, 64, 1.0, "1", book]:
            if not (type(value) is int and 0 <= value <= 3):
                self.assertIs(raised(self, BadNumber, book.cut, value).value, value)
        self.assertEqual(raised(self, BadNumber, Book("book 1\n").cut, 1).value, 1)
        self.assertEqual((book.text(), len(book)), (GOOD, 3))

    def test_forms_of_each_line(self):
        heads = ["book 1", "book 2", "book 3", "book 0", "book 4", "book", "book 01", "book 10", "book  1", " book 1",
                 "book 1 ", "Book 1", "book one", "book 1 1", "", "open -", "used 1", "bookk 1"]
        for head in heads:
            self.check(f"{head}\n")
            self.check(f"{head}\nopen -\nused 0\n")
        looks = ["part a 0", "turn a 0 1", "turn a 1 0", "turn a 1 1", "row a 1 0", "row a 1 1", "coin a 0 9", "coin a 9 0",
                 "prod a 3 2", "prod a 2 2", "half a 0 2", "half a 2 0", "back a 2 0", "back a 0 2", "back a 1 1",
                 "sum a 0 0", "sum a 9 1", "part a 10", "part a", "part abcdefgh 9", "part abcdefghi 9", "part a 0 1",
                 "turn a 0", "turn a 0 1 2", "line a b", "line a 0", "line a b c", "line and b", "line a xor",
                 "line abcdefgh abcdefgh", "line a abcdefghi", "part in 0", "part 0a 0", "", "look a 0", "part  0",
                 "part a  0", "part A 0", "row a 1", "sum a 1"]
        for look in looks:
            for end in (" = 1", " = 0", " = 2", " =1", "=1", " = ", " = 10", " = -", "  = 1", " = 1 ", " == 1", " 1", ""):
                self.check(f"book 1\nread {look}{end}\nopen -\nused 0\n")
            self.check(f"book 1\nRead {look} = 1\nopen -\nused 0\n")
            self.check(f"book 1\n{look} = 1\nopen -\nused 0\n")
        for bits in ("-", "0", "1", "01", "0101010101", "1" * 1000, "", "--", "-0", "0-", "2", "01 1", " 01", "01 ", "a",
                     "0 1", "True"):
            self.check(f"book 1\nopen {bits}\nused 0\n")
            self.check(f"book 1\nopened {bits}\nused 0\n")
        for number in ("0", "1", "9999999", "1000000", "10000000", "00", "01", "", "-1", "+1", "1 ", " 1", "1.0", "a", "1 1",
                       "\u00b2", "\u0661", "9" * 60):
            self.check(f"book 1\nopen -\nused {number}\n")
        for line in ("open -", "used 1", "read part a 0 = 1", "book 1", "", " ", "end"):
            for before in ("", "open -\n", "open -\nused 0\n", "read part b 0 = 1\n", "read part b 0 = 1\nopen 1\n"):
                self.check(f"book 1\n{before}{line}\n")
                self.check(f"book 1\n{before}{line}")
                self.check(f"book 1\n{before}{line}\nopen -\nused 0\n")

    def test_most_looks(self):
        for t, many in itertools.product((1, 2, 3), range(6)):
            reads = "".join(f"read part a {at} = 1\n" for at in range(many))
            self.assertEqual(self.check(f"book {t}\n{reads}open -\nused 0\n"), None if many <= t else t + 2)
            # The next beat begins anew.
            self.check(f"book {t}\n{reads[:20 * t]}open -\nused 0\n{reads}open -\nused 0\n")

    def test_like_looks(self):
        for looks, line in ((("part a 0", "part a 0"), 3), (("part a 0", "part a 1", "part a 0"), 4),
                            (("part a 0", "part b 0", "part a 1"), None), (("line a b", "line a b"), 3),
                            (("prod a 0 1", "prod a 1 0"), None)):
            for bits in itertools.product("01", repeat=len(looks)):
                reads = "".join(f"read {look} = {bit}\n" for look, bit in zip(looks, bits))
                self.assertEqual(self.check(f"book 3\n{reads}open -\nused 0\n"), line)
        self.assertIsNone(self.check("book 1\n" + "read part a 0 = 1\nopen -\nused 0\n" * 5))

    def test_ends_within_a_beat(self):
        lines = GOOD.splitlines(True)
        ends = [self.check("".join(lines[:many])) for many in range(len(lines) + 1)]
        self.assertEqual(ends, [1, None, 3, 4, 5, None, 7, None, 9, 10, None])
        for many in range(1, len(lines) + 1):
            self.assertEqual(self.check("".join(lines[:many])[:-1]), many)
        self.assertEqual(self.check(""), 1)
        self.assertEqual(self.check("\n"), 1)
        self.assertEqual(self.check(GOOD + "\n"), 11)

    def test_any_value(self):
        for value in ANY_VALUES + [Book(GOOD), [GOOD], b"book 1\n"]:
            self.check(value)

    def test_one_fault_alone_and_several(self):
        signs = "01 -=\nab9pru"
        for source in sources(3000):
            text = GOOD
            for _ in range(source.choice((1, 1, 2, 5))):
                at = source.randrange(len(text) + 1)
                text = source.choice((text[:at] + source.choice(signs) + text[at:], text[:at] + text[at + 1:],
                                      text[:at] + source.choice(signs) + text[at + 1:]))
            self.check(text)
        lines = GOOD.splitlines(True)
        more = lines + ["read part a 3 = 1\n", "open 0\n", "used 007\n", "read prod p 0 1 = 0\n", "\n", "book 2\n", "x\n"]
        found = {}
        for source in sources(3000):
            row = list(lines)
            for _ in range(source.choice((1, 1, 2, 3))):
                at = source.randrange(len(row) + 1)
                change = source.randrange(4)
                if change == 0:
                    row.insert(at, source.choice(more))
                elif change == 1:
                    row[at:at + 1] = []
                elif change == 2:
                    row[at:at + 1] = [source.choice(more)]
                else:
                    other = source.randrange(len(row) + 1)
                    row[at:at + 1], row[other:other + 1] = row[other:other + 1], row[at:at + 1]
            found[self.check("".join(row))] = True
        self.assertGreater(len(found), 9)

    def test_most_beats(self):
        beat = "read part a 0 = 1\nopen 1\nused 5\n"
        self.assertEqual(len(Book("book 1\n" + beat * 64)), 64)
        self.assertEqual(repr(Book("book 1\n" + beat * 64)), "Book(64 beats)")
        for many in (65, 66, 200):
            error = raised(self, TooMany, Book, "book 1\n" + beat * many)
            self.assertEqual((error.what, error.many), ("beats", many))
            # A line that cannot stand so comes first.
            self.assertEqual(raised(self, BadBook, Book, "book 1\n" + beat * many + "x\n").line, 3 * many + 2)
            self.assertEqual(raised(self, BadBook, Book, "book 1\n" + beat * many + "open -\n").line, 3 * many + 3)


class Writing(unittest.TestCase):
    def test_worked_call(self):
        circuit = Circuit("secret a from a\nsecret b from b\nc = a and b\n")
        run = Run(circuit, Secrets([1, 1]), Tape.read("101011110100"), rule=Fixed([["prod c 0 1"]]))
        self.assertEqual(book_of(run).text(), "book 1\n")
        run.step()
        self.assertEqual(book_of(run=run).text(), "book 1\nread prod c 0 1 = 1\nopen -\nused 12\n")

    def test_beside_an_independent_run(self):
        for t, many in ((1, 60), (2, 15), (3, 10)):
            for source in sources(many):
                case = Case(source, n=3 * t + 1, beats=source.randint(0, 4), laid=0.4 if t == 1 else 0.0)
                run, beside = started(case, random_rule(source, case, t), t), case.covering()
                rows = []
                for at in range(case.beats):
                    run.step()
                    looks = run.looked[at]
                    opened = [sum(beside.parts[at][wire]) % 2 for wire in Circuit(case.text).opens()]
                    rows.append((looks, [beside.looks[at][look] for look in looks], opened, beside.used[at]))
                    book = book_of(run)
                    self.assertEqual((book.text(), book.t, len(book)), (written(t, rows), t, at + 1))
                    self.assertIs(type(book), Book)
                    self.assertEqual(Book(book.text()), book)
                    self.assertIsNone(first_fault(book.text()))
                for beats in range(case.beats + 1):
                    self.assertEqual(book_of(run).cut(beats).text(), written(t, rows[:beats]))

    def test_a_book_stays_when_the_run_goes_on(self):
        run = started_text(Fixed([["part a 0"]] * 3), 1)
        book = book_of(run)
        text = book.text()
        run.step()
        self.assertEqual((book.text(), len(book)), (text, 1))


def started(case, rule, t):
    return Run(Circuit(case.text), Secrets(case.first, case.later), Tape(case.tape), t=t, rule=rule, pieces=case.pieces)


def started_text(rule, beats, **named):
    run = Run(Circuit(TEXT), Secrets([1], [[1], [0], [1], [1]]), Tape(random_bits(random.Random(3), 900)), rule=rule,
              **named)
    run.go(beats)
    return run


class Counting:
    """A rule that counts how often it is asked."""

    def __init__(self, rule):
        self.rule, self.beats = rule, []

    def __call__(self, beat, readings, opened):
        self.beats.append(beat)
        return self.rule(beat, readings, opened)


def differing_line(case, book, looked):
    """The first line of a book that is none of the run's, or None; looked tells the looks of each beat."""
    run, line = case.covering(), 2
    opens = Circuit(case.text).opens()
    for at, row in enumerate(book.rows()):
        looks = looked(at)
        for place, look in enumerate(looks):
            if look not in run.looks[at]:
                return line + place
        opened = [sum(run.parts[at][wire]) % 2 for wire in opens]
        made = beat_lines(looks, [run.looks[at][look] for look in looks], opened, run.used[at])
        for place, (told, own) in enumerate(itertools.zip_longest(beat_lines(*row), made)):
            if told != own:
                return line + place
        line += len(row[0]) + 2
    return None


def altered(source, book, case):
    """The text of a book in which one thing is altered; it may have no form any more."""
    lines = book.text().splitlines()
    at = source.randrange(len(lines))
    words = lines[at].split(" ")
    looks = [look for told in case.covering().looks for look in told]
    if words[0] == "book":
        lines[at] = f"book {source.randint(1, 3)}"
    elif words[0] == "read":
        other = source.choice(looks + ["part zz 0", "line p zz", "turn a 0 1", "part a 9"])
        lines[at] = source.choice((" ".join(words[:-1] + [str(1 - int(words[-1]))]), f"read {other} = {words[-1]}",
                                   f"read {other} = {source.randrange(2)}"))
        if source.random() < 0.3:
            del lines[at]
    elif words[0] == "open":
        bits = words[1].replace("-", "")
        place = source.randrange(len(bits) + 1)
        bits = source.choice((bits[:place] + "1" + bits[place + 1:], bits + "0", bits[:-1], "0" * len(bits)))
        lines[at] = f"open {bits or '-'}"
        if source.random() < 0.3:
            lines.insert(at, f"read {source.choice(looks)} = {source.randrange(2)}")
    else:
        lines[at] = f"used {max(int(words[1]) + source.choice((-1, 1, 6, -6)), 0)}"
    return "".join(f"{line}\n" for line in lines)


class TakingUp(unittest.TestCase):
    def cases(self, many):
        for t, count in ((1, many), (2, many // 4), (3, many // 6)):
            for source in sources(count):
                case = Case(source, n=3 * t + 1, beats=source.randint(1, 4), laid=0.4 if t == 1 else 0.0,
                            spare=source.choice((0, 3)))
                yield source, case, t, random_rule(source, case, t)

    def told(self, run, case):
        parts = {wire: run.parts(wire) for wire in Circuit(case.text).wires()} if run.beat else None
        return (run.beat, run.looked, run.readings, run.opened, run.used, run.ends, run.t, parts)

    def values(self, case):
        return {"circuit": Circuit(case.text), "secrets": Secrets(case.first, case.later), "tape": Tape(case.tape),
                "pieces": case.pieces}

    def test_the_right_book_and_each_of_its_cuts(self):
        for source, case, t, rule in self.cases(40):
            runs = [started(case, rule, t)]
            for _ in range(case.beats):
                runs.append(runs[-1].branch())
                runs[-1].step()
            book = book_of(runs[-1])
            for beats in range(case.beats + 1):
                counting = Counting(rule)
                run = take_up(book.cut(beats), rule=counting, **self.values(case))
                self.assertIs(type(run), Run)
                self.assertEqual((self.told(run, case), counting.beats), (self.told(runs[beats], case), []))
                run.go(case.beats - beats)
                self.assertEqual(self.told(run, case), self.told(runs[-1], case))
                self.assertEqual((counting.beats, book_of(run)), (list(range(beats, case.beats)), book))
                counting = Counting(rule)
                self.assertIsNone(replay(book.cut(beats), rule=counting, **self.values(case)))
                self.assertEqual(counting.beats, list(range(beats)))

    def test_goes_on_with_another_rule(self):
        run = started_text(Fixed([["part a 0"], ["part a 1"], ["part a 2"]]), 2)
        circuit, secrets, tape = Circuit(TEXT), Secrets([1], [[1], [0], [1], [1]]), Tape(random_bits(random.Random(3), 900))
        told = []

        def rule(beat, readings, opened):
            told.append((beat, readings, opened))
            return [f"part p {beat}"]

        taken_up = take_up(book_of(run), circuit, secrets, tape, rule=rule)
        taken_up.step()
        self.assertEqual(taken_up.looked, [("part a 0",), ("part a 1",), ("part p 2",)])
        self.assertEqual(told, [(2, run.readings, run.opened)])
        self.assertEqual(taken_up.branch().looked, taken_up.looked)

    def test_books_in_which_one_thing_is_altered(self):
        found = {}
        for source, case, t, rule in self.cases(100):
            run = started(case, rule, t)
            run.go(case.beats)
            for _ in range(8):
                text = altered(source, book_of(run), case)
                if first_fault(text) is not None or not text.startswith(f"book {t}\n"):
                    continue
                book = Book(text)
                counting = Counting(rule)
                line = differing_line(case, book, lambda at: book.rows()[at][0])
                if line is None:
                    self.assertEqual(book_of(take_up(book, rule=counting, **self.values(case))), book)
                else:
                    error = raised(self, BadBook, take_up, book, rule=counting, **self.values(case))
                    self.assertEqual(error.line, line, text)
                self.assertEqual(counting.beats, [])
                found["taken" if line is None else "not taken"] = True
                line = differing_line(case, book, lambda at: run.looked[at])
                if line is None:
                    self.assertIsNone(replay(book, rule=rule, **self.values(case)))
                else:
                    self.assertEqual(raised(self, BadBook, replay, book, rule=rule, **self.values(case)).line, line, text)
                found["replayed" if line is None else "not replayed"] = True
        self.assertEqual(len(found), 4)

    def test_other_tapes_secrets_and_rules(self):
        found = {}
        for source, case, t, rule in self.cases(80):
            run = started(case, rule, t)
            run.go(case.beats)
            book = book_of(run)
            what = source.choice(("tape", "secrets", "rule"))
            if what == "tape" and case.tape:
                place = source.randrange(len(case.tape))
                case.tape = case.tape[:place] + (1 - case.tape[place],) + case.tape[place + 1:]
            elif what == "secrets":
                case.first, case.later = case.secrets(source)
            else:
                rule = random_rule(source, case, t)
            line = differing_line(case, book, lambda at: book.rows()[at][0])
            if line is None:
                self.assertEqual(book_of(take_up(book, rule=rule, **self.values(case))), book)
            else:
                self.assertEqual(raised(self, BadBook, take_up, book, rule=rule, **self.values(case)).line, line)
            # With the rule, in a run of its own, for the looks.
            other = started(case, rule, t)
            other.go(case.beats)
            line = differing_line(case, book, lambda at: other.looked[at])
            if line is None:
                self.assertIsNone(replay(book, rule=rule, **self.values(case)))
            else:
                self.assertEqual(raised(self, BadBook, replay, book, rule=rule, **self.values(case)).line, line)
            found[what, line is None] = True
        self.assertEqual(len(found), 6)

    def test_other_circuits(self):
        run = started_text(Fixed([["part a 0"], ["part q 1"]]), 2)
        secrets, tape = Secrets([1], [[1], [0], [1], [1]]), Tape(random_bits(random.Random(3), 900))
        for text, line in ((TEXT, None), (TEXT.replace("open a\n", ""), 3), (TEXT.replace("q", "r"), 5),
                           (TEXT.replace("p = a and x", "p = a xor x"), 3), (TEXT + "z = a and a\n", 4),
                           (TEXT.replace("cell b 1", "cell b 0"), 3), (TEXT + "z = not a\n", None)):
            if line is None:
                self.assertEqual(take_up(book_of(run), Circuit(text), secrets, tape, rule=Rule()).beat, 2)
            else:
                error = raised(self, BadBook, take_up, book_of(run), Circuit(text), secrets, tape, rule=Rule())
                self.assertEqual(error.line, line, text)

    def test_looks_that_are_none_of_their_beat(self):
        circuit, secrets, tape = Circuit(TEXT), Secrets([1], [[1], [0]]), Tape([0] * 900)
        run = Run(circuit, secrets, tape, t=3, rule=Rule())
        run.go(2)
        opens = [f"open {''.join(map(str, row))}\nused {used}\n" for row, used in zip(run.opened, run.ends)]
        for look, lines in (("turn a 0 1", (3, None)), ("part z 0", (3, 5)), ("line p z01", (3, 5)), ("prod q 0 1", (3, 5)),
                            ("row b 9 8", (3, None)), ("part a 9", (None, None))):
            for beat, line in enumerate(lines):
                # The first look reads 0, but the book says 1: a look that is none comes ahead of comparing the beat.
                wrong = f"read part b 1 = 1\nread {look} = 0\n"
                text = "book 3\n" + "".join(wrong * (at == beat) + opens[at] for at in range(2))
                error = raised(self, BadBook, take_up, Book(text), circuit, secrets, tape, rule=Rule())
                self.assertEqual(error.line, line or 2 + 2 * beat, text)
                # Replaying, it is a line that differs from the first one of the beat on.
                error = raised(self, BadBook, replay, Book(text), circuit, secrets, tape, rule=Rule())
                self.assertEqual(error.line, 2 + 2 * beat)
        # An earlier beat that differs comes first.
        text = "book 3\n" + opens[0].replace("used ", "used 1") + "read part z 0 = 0\n" + opens[1]
        self.assertEqual(raised(self, BadBook, take_up, Book(text), circuit, secrets, tape, rule=Rule()).line, 3)

    def test_lines_that_are_too_many_or_too_few(self):
        circuit, secrets, tape = Circuit(TEXT), Secrets([1], [[1], [0]]), Tape([0] * 900)
        rule = Fixed([["part a 0", "part b 0"]])
        run = Run(circuit, secrets, tape, t=3, rule=rule)
        run.go(1)
        lines = book_of(run).text().splitlines(True)
        for text, line in (("".join(lines), None), ("".join(lines[:1] + lines[2:]), 2), ("".join(lines[:2] + lines[3:]), 3),
                           ("".join(lines[:1] + lines[3:]), 2), ("".join(lines[:3] + ["read part p 0 = 0\n"] + lines[3:]), 4),
                           ("".join(lines[:1] + lines[2:0:-1] + lines[3:]), 2)):
            if line is None:
                replay(Book(text), circuit, secrets, tape, rule=rule)
            else:
                self.assertEqual(raised(self, BadBook, replay, Book(text), circuit, secrets, tape, rule=rule).line, line)

    def test_64_beats(self):
        circuit, rule = Circuit("cell a 1 from b\nb = not a\nopen a\n"), Fixed([["part a 0"]] * 70)
        tape = Tape(random_bits(random.Random(1), 6 * 63))
        run = Run(circuit, Secrets([]), tape, rule=rule)
        run.go(64)
        book = book_of(run)
        again = take_up(book, circuit, Secrets([]), tape, rule=rule)
        self.assertEqual(raised(self, TooMany, again.step).many, 65)
        self.assertIsNone(replay(book, circuit, Secrets([]), tape, rule=rule))
        self.assertEqual(replay(book=book, circuit=circuit, secrets=Secrets([]), tape=tape, rule=rule, pieces=None), None)
        again = take_up(book=book.cut(63), circuit=circuit, secrets=Secrets([]), tape=tape, rule=rule, pieces=None)
        again.step()
        self.assertEqual(book_of(again), book)


class ErrorsOfRuns(unittest.TestCase):
    def setUp(self):
        run = started_text(Fixed([["part a 0"], ["part a 1"], []]), 3)
        self.book = book_of(run)
        self.good = {"circuit": Circuit(TEXT), "secrets": Secrets([1], [[1], [0], [1]]), "rule": Fixed(run.looked),
                     "tape": Tape(random_bits(random.Random(3), 900)), "pieces": None}

    def both(self, error, book=None, **named):
        for call in (take_up, replay):
            yield raised(self, error, call, self.book if book is None else book, **{**self.good, **named})

    def test_making(self):
        for secrets, what in ((Secrets([]), "first"), (Secrets([1], [[]]), "later")):
            for error in self.both(BadSecrets, secrets=secrets, pieces={"x": None}, tape=Tape([])):
                self.assertEqual(error.what, what)
        for error in self.both(NotTaken, pieces={"x": None, "z": None}, tape=Tape([])):
            self.assertEqual(error.name, "x")
        for error in self.both(NotTaken, book=Book("book 2\n"), pieces={"a": taken("ring")}):
            self.assertEqual(error.name, "a")
        for book in (self.book, Book("book 1\n"), Book("book 1\nopen -\nused 5\n")):
            for error in self.both(TapeEnds, book=book, tape=Tape([0, 0])):
                self.assertEqual(error.at, 0)
        self.assertEqual(take_up(Book("book 2\n"), **self.good).t, 2)
        self.assertEqual(take_up(Book("book 3\n"), **self.good).used, 9)

    def test_beat_by_beat(self):
        ends = [bits_needed(Circuit(TEXT), beats) for beats in range(4)]
        for at in range(3):
            for error in self.both(BadSecrets, secrets=Secrets([1], [[1], [0], [1]][:at]), tape=Tape([0] * 3) if not at else
                                   self.good["tape"]):
                self.assertEqual(error.what, "later")
            for many in range(ends[at], ends[at + 1]):
                for error in self.both(TapeEnds, tape=Tape(self.good["tape"].bits()[:many])):
                    self.assertEqual(error.at, at)
        # What is wrong in the book ahead of that beat comes first, what is wrong in it or behind it does not.
        for beat, at in itertools.product(range(3), range(3)):
            lines = self.book.text().splitlines()
            place = [at for at, line in enumerate(lines) if line.startswith("used")][beat]
            lines[place] += "1"
            book = Book("".join(f"{line}\n" for line in lines))
            tape = Tape(self.good["tape"].bits()[:ends[at]])
            if beat < at:
                for error in self.both(BadBook, book=book, tape=tape):
                    self.assertEqual(error.line, place + 1)
            else:
                for error in self.both(TapeEnds, book=book, tape=tape):
                    self.assertEqual(error.at, at)
        # A look that is none of its beat stands behind these errors, too.
        book = Book(self.book.text().replace("part a 1", "part z 1"))
        for error in self.both(TapeEnds, book=book, tape=Tape(self.good["tape"].bits()[:ends[1]])):
            self.assertEqual(error.at, 1)

    def test_errors_of_the_rule_are_met_by_replaying_alone(self):
        for looks, error in ((None, BadLook), (["nope"], BadLook), (["part a 0", "part a 1"], TooMany)):
            rule = Fixed([["part a 0"], looks])
            raised(self, error, replay, self.book, **{**self.good, "rule": rule})
            run = take_up(self.book, **{**self.good, "rule": rule})
            self.assertEqual(run.beat, 3)
            wrong = Book(self.book.text().replace("part a 0", "part a 3"))
            self.assertEqual(raised(self, BadBook, replay, wrong, **{**self.good, "rule": rule}).line, 2)

        def rule(beat, readings, opened):
            raise KeyError("mine")

        raised(self, KeyError, replay, self.book, **{**self.good, "rule": rule})
        self.assertIsNone(replay(Book("book 1\n"), **{**self.good, "rule": rule}))
        raised(self, KeyError, take_up(self.book, **{**self.good, "rule": rule, "secrets": Secrets([1], [[1], [0], [1], [1]])}
                                       ).step)

    def test_what_is_passed_stays(self):
        pieces, text = {"a": taken("ring")}, self.book.text()
        run = take_up(Book("book 1\n"), **{**self.good, "pieces": pieces})
        pieces.clear()
        run.go(2)
        self.assertEqual(run.used, bits_needed(Circuit(TEXT), 2, pieces={"a": taken("ring")}))
        take_up(self.book, **self.good).go(0)
        self.assertEqual(self.book.text(), text)


if __name__ == "__main__":
    unittest.main()
