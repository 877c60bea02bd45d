"""The pages of which nothing came."""

from almsrow.walking import behind


def idle(deed, book, moment):
    """The idle pages up to the moment, each with its word."""
    return behind(deed, book, moment).idle
