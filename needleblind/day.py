"""Days: from the text of a program to the twin of its run."""

from needleblind.books import book_of
from needleblind.codes import Code
from needleblind.processor import circuit_of, secrets_of, shown_in
from needleblind.programs import Program
from needleblind.runs import Run
from needleblind.tidy import tidied
from needleblind.twins import twin


class Day:
    """What a day has made, which never changes."""

    def __init__(self, code, circuit, turning, run, other_run):
        self.program = code.program
        self.code = code
        self.circuit = circuit
        self.shown = shown_in(run.opened)
        self.turning = turning
        self.book = book_of(run)
        self.other_book = book_of(other_run)


def day(text, one, other, tape, *, t=1, rule, beats):
    """The day of a program's text, with the secrets one of its hidden words, and with other ones for the twin."""
    code = Code(Program(text))
    first = secrets_of(code, one)
    second = secrets_of(code, other)
    circuit = tidied(circuit_of(code))
    turning = twin(circuit, first, second, tape, t=t, rule=rule, beats=beats)
    run = Run(circuit, first, tape, t=t, rule=rule)
    run.go(beats)
    other_run = Run(circuit, second, turning.tape, t=t, rule=rule)
    other_run.go(beats)
    return Day(code, circuit, turning, run, other_run)
