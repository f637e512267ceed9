"""Names that begin alike, counted, so that one sees sign by sign what can still come."""

from marksinturn.shapes import FIGURES, LETTERS, LONGEST_NAME


def names_from(start):
    """How many names begin so, if it is the beginning of one."""
    many = 1
    for _ in range(LONGEST_NAME - len(start)):
        many = 1 + 36 * many
    return many


class NameStock:
    """A lot of names that knows how many of them begin with what."""

    def __init__(self):
        self.starts = {}
        self.whole = {}

    def put(self, name):
        """Put a name in."""
        self.whole[name] = True
        for end in range(len(name) + 1):
            start = name[:end]
            self.starts[start] = self.starts.get(start, 0) + 1

    def has(self, name):
        """Whether the name is in."""
        return name in self.whole

    def beginning(self, start):
        """How many names that are in begin so."""
        return self.starts.get(start, 0)

    def leaves_one(self, start):
        """Whether some name that begins so is not in."""
        if not 1 <= len(start) <= LONGEST_NAME or start[0] not in LETTERS:
            return False
        if any([sign not in LETTERS and sign not in FIGURES for sign in start]):
            return False
        return self.beginning(start) < names_from(start)

    def new_name(self, start):
        """A name that begins so and is not in; one is left."""
        name = start
        while name == "" or self.has(name):
            name += [sign for sign in LETTERS + FIGURES if self.leaves_one(name + sign)][0]
        return name
