import unittest

from needleblind import errors
from support import ANY_VALUES

PARAMETERS = {
    "BadProgram": ("line", "why"),
    "BadCircuit": ("line", "why"),
    "BadPiece": ("line", "why"),
    "BadBook": ("line",),
    "BadLook": ("look",),
    "BadSecrets": ("what",),
    "BadNumber": ("value",),
    "BadName": ("value",),
    "BadTape": ("value",),
    "BadStanding": ("at",),
    "NotBlock": (),
    "NotAlike": ("what",),
    "TooMany": ("what", "many"),
    "NoWord": ("name",),
    "NoWire": ("name",),
    "NoBit": ("at",),
    "TapeEnds": ("at",),
    "Parted": ("at",),
    "NotTaken": ("name",),
}
MISSING = ("NoWord", "NoWire", "NoBit")
STOPPED = ("TapeEnds", "Parted", "NotTaken")


def base_of(name):
    if name in MISSING:
        return errors.Missing
    return errors.Stopped if name in STOPPED else errors.CoverError


class Errors(unittest.TestCase):
    def test_parameters_by_position_and_by_name(self):
        for name, parameters in PARAMETERS.items():
            made = getattr(errors, name)
            for value in ANY_VALUES:
                values = [value] + [[value]] * (len(parameters) - 1)
                values = values[:len(parameters)]
                for error in (made(*values), made(**dict(zip(parameters, values)))):
                    for parameter, expected in zip(parameters, values):
                        self.assertIs(getattr(error, parameter), expected)

    def test_no_other_number_of_parameters(self):
        for name, parameters in PARAMETERS.items():
            with self.assertRaises(TypeError):
                getattr(errors, name)(*range(len(parameters) + 1))
            if parameters:
                with self.assertRaises(TypeError):
                    getattr(errors, name)()

    def test_direct_bases(self):
        for name in PARAMETERS:
            self.assertEqual(getattr(errors, name).__bases__, (base_of(name),))
        self.assertEqual(errors.CoverError.__bases__, (ValueError,))
        self.assertEqual(errors.Missing.__bases__, (LookupError,))
        self.assertEqual(errors.Stopped.__bases__, (RuntimeError,))

    def test_no_class_below_another(self):
        classes = {name: getattr(errors, name) for name in PARAMETERS}
        for name, made in classes.items():
            for other_name, other in classes.items():
                self.assertEqual(issubclass(made, other), name == other_name)
            for base in (errors.CoverError, errors.Missing, errors.Stopped):
                self.assertEqual(issubclass(made, base), base is base_of(name))

    def test_all_can_be_raised_and_caught(self):
        for name, parameters in PARAMETERS.items():
            with self.assertRaises(base_of(name)) as caught:
                raise getattr(errors, name)(*range(len(parameters)))
            self.assertIs(type(caught.exception), getattr(errors, name))


if __name__ == "__main__":
    unittest.main()
