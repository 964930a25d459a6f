"""The errors behind the refusals, one for each."""


class NoHedge(Exception):
    """A text that tells no hedge."""


class NoVersion(Exception):
    """A number that is not that of a version."""


class TooManyNodes(Exception):
    """A hedge with more nodes than one may hold."""
