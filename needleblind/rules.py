"""Rules: what is looked at in each beat."""

from needleblind.bits import parity


class Rule:
    """Looks at nothing; a subclass with its own told is a rule as well."""

    def __call__(self, beat, readings, opened):
        return self.told(beat, readings, opened)

    def told(self, beat, readings, opened):
        """The looks of a beat."""
        return []


class Fixed(Rule):
    """Looks in each beat at what one list of looks tells."""

    def __init__(self, rows):
        self._looks = [_copied(row) for row in rows]

    def told(self, beat, readings, opened):
        """The looks of a beat, none behind the end of the lists."""
        return _anew(self._looks[beat]) if beat < len(self._looks) else []


class ByParity(Rule):
    """Looks in each beat at what one of two lists tells, by the xor of all bits that were read before."""

    def __init__(self, table):
        self._pairs = [(_copied(even), _copied(odd)) for even, odd in table]

    def told(self, beat, readings, opened):
        """The looks of a beat, none behind the end of the lists."""
        if beat >= len(self._pairs):
            return []
        return _anew(self._pairs[beat][parity([bit for reading in readings for bit in reading])])


def _anew(looks):
    # What is no list and no tuple is told as it is, for the run to refuse it.
    return list(_copied(looks)) if isinstance(looks, (list, tuple)) else _copied(looks)


def _copied(value):
    if isinstance(value, list):
        return [_copied(item) for item in value]
    if isinstance(value, tuple):
        return tuple([_copied(item) for item in value])
    if isinstance(value, dict):
        return {key: _copied(item) for key, item in value.items()}
    return value
