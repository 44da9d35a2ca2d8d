"""Keepers: they hold how things are for a thing that changes, and put it back behind a trial."""


class Saved:
    """How things were when a block began, and what was saved by the block around it."""

    def __init__(self, affairs, names, outer):
        self.affairs = affairs
        self.names = names
        self.outer = outer


class Keeper:
    """What a thing does, it does to the affairs of its keeper: in the block of a trial these are a copy.

    Affairs have `names`, a list that they change but do not exchange, and `copied`.
    """

    def __init__(self, owner, affairs):
        self.owner = owner
        self.affairs = affairs
        self.names = affairs.names
        self.saved = None

    def __enter__(self):
        self.saved = Saved(self.affairs, self.names, self.saved)
        self.affairs = self.affairs.copied()
        self.names = self.affairs.names
        return self.owner

    def __exit__(self, *told):
        self.affairs = self.saved.affairs
        self.names = self.saved.names
        self.saved = self.saved.outer
