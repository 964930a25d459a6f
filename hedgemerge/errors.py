"""The errors behind the refusals, one for each."""


class NoHedge(Exception):
    """A text that tells no hedge."""


class NoVersion(Exception):
    """A number that is not that of a version."""


class NoNode(Exception):
    """A path that is not that of a node of the base, or leads into a tree that was dropped."""


class TooManyNodes(Exception):
    """A hedge with more nodes than one may hold."""
