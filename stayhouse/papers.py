"""Papers: what functions hand out as answers that can be looked at."""


class Paper:
    """The base of all papers. They are true; those of one class are equal if they keep equal things."""

    def kept(self):
        """The tuple of what the paper keeps; each class of papers tells its own."""
        return ()

    def __eq__(self, other):
        if not isinstance(other, Paper):
            return False
        return self.__class__.__name__ == other.__class__.__name__ and self.kept() == other.kept()


class Denial(Paper):
    """The base of all papers that are false."""

    def __bool__(self):
        return False


def is_lasting(value):
    """Whether nobody can change any value, as there is no list and no dict in it."""
    if isinstance(value, tuple):
        return all([is_lasting(part) for part in value])
    return not isinstance(value, (list, dict))


def lasting(value):
    """What a paper keeps of any value: an equal one that later changes to the value do not reach."""
    if is_lasting(value):
        return value
    if isinstance(value, dict):
        return {key: lasting(value[key]) for key in value}
    parts = [lasting(part) for part in value]
    return tuple(parts) if isinstance(value, tuple) else parts
