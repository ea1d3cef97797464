"""Which values are names, numbers and bits."""

LETTERS = "abcdefghijklmnopqrstuvwxyz"
DIGITS = "0123456789"
RUN_SIGNS = "abcdefghijklmnopqrstuvwxyz0123456789"
MOST_SIGNS = 8
OWN_WORDS = ("width", "secret", "word", "row", "if", "else", "while", "end", "show", "stop", "half", "twice")
CIRCUIT_WORDS = ("and", "cell", "coin", "from", "in", "not", "open", "out", "piece", "secret", "xor")


def is_name(value):
    """Whether any value is a name."""
    return isinstance(value, str) and len(value) <= MOST_SIGNS and is_letter_run(value)


def is_letter_run(text):
    """Whether a string has lowercase letters and digits alone, however many, and begins with a letter."""
    return text != "" and text[0] in LETTERS and all([sign in RUN_SIGNS for sign in text])


def is_numeral(text):
    """Whether a string has digits alone, however many, and no leading zero."""
    return text != "" and all([sign in DIGITS for sign in text]) and (text[0] != "0" or text == "0")


def is_number(value, least, most):
    """Whether any value is a number from least to most; True and False are none."""
    return isinstance(value, int) and not isinstance(value, bool) and least <= value <= most


def is_bit(value):
    """Whether any value is the number 0 or 1."""
    return is_number(value, 0, 1)


def is_bits(value, many=None):
    """Whether any value is a list or tuple of bits, and of just so many if many is a number."""
    if not isinstance(value, (list, tuple)):
        return False
    if isinstance(many, int) and not isinstance(many, bool) and len(value) != many:
        return False
    return all([is_bit(item) for item in value])


def program_name(value):
    """Whether any value is a name of a program."""
    return is_name(value) and value not in OWN_WORDS and not _is_t_word(value)


def wire_name(value):
    """Whether any value is a name of a wire of a circuit or piece."""
    return is_name(value) and value not in CIRCUIT_WORDS


def _is_t_word(name):
    # Leading zeros count here, too: t00 is no name, though it is no temp either.
    return name[0] == "t" and len(name) > 1 and all([sign in DIGITS for sign in name[1:]])
