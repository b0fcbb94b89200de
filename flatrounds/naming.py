"""New names: those that a program gets which needs more than it was asked for."""

LETTERS = "abcdefghijklmnopqrstuvwxyz"


class Supply:
    """Names that are none of some, the shortest ones first, each of them given out once."""

    def __init__(self, taken):
        self._taken = {name: True for name in taken}
        self._tried = 0

    def one(self):
        """The next name."""
        while True:
            name = _nth_name(self._tried)
            self._tried += 1
            if name not in self._taken:
                return name

    def some(self, many):
        """The next so many names, as a list."""
        return [self.one() for _ in range(many)]


def _nth_name(number):
    """The name with this number of all names, by length and then as they are ordered."""
    name = ""
    rest = number + 1
    while rest > 0:
        rest, at = divmod(rest - 1, len(LETTERS))
        name = LETTERS[at] + name
    return name
