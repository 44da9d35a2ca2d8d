"""Papers: what functions hand out as answers that can be looked at."""


class Paper:
    """The base of all papers. They are true; those of one class are equal if they keep equal things."""

    def kept(self):
        """The tuple of what the paper keeps; each class of papers tells its own."""
        return ()

    def __eq__(self, other):
        if not isinstance(other, Paper):
            return False
        return self.__class__.__name__ == other.__class__.__name__ and self.kept() == other.kept()


class Denial(Paper):
    """The base of all papers that are false."""

    def __bool__(self):
        return False
