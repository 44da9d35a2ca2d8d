"""Sites: kinds of bays, each with its hall, its gate and its line."""

from stayhouse.checks import is_name, is_within
from stayhouse.errors import BadSite
from stayhouse.words import end_at, name_at, number_at, words_of

MOST_LINES = 6


class Site:
    """A kind of bays."""

    def __init__(self, name, hall, gate, line=1):
        if not is_name(name):
            raise BadSite("name")
        if not is_name(hall):
            raise BadSite("hall")
        if not is_name(gate):
            raise BadSite("gate")
        if not is_within(line, 1, MOST_LINES):
            raise BadSite("line")
        self.name = name
        self.hall = hall
        self.gate = gate
        self.line = line

    @classmethod
    def read(cls, text):
        """The Site that a text tells."""
        words = words_of(text)
        name = name_at(words, 0)
        hall = name_at(words, 1)
        gate = name_at(words, 2)
        line = number_at(words, 3, 1, MOST_LINES)
        end_at(words, 4)
        return cls(name, hall, gate, line)

    def with_hall(self, hall):
        """The Site with another hall."""
        return Site(self.name, hall, self.gate, self.line)

    def with_gate(self, gate):
        """The Site with another gate."""
        return Site(self.name, self.hall, gate, self.line)

    def with_line(self, line):
        """The Site with another line."""
        return Site(self.name, self.hall, self.gate, line)

    def __eq__(self, other):
        return isinstance(other, Site) and site_parts(self) == site_parts(other)

    def __str__(self):
        return f"{self.name} {self.hall} {self.gate} {self.line}"


def site_parts(site):
    """All attributes of a site."""
    return site.name, site.hall, site.gate, site.line
