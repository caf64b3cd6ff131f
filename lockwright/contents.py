"""Dicts from pairs (name, version), and the texts in them."""

from lockwright.errors import NoContents
from lockwright.locks import locks_of
from lockwright.ranges import is_version
from lockwright.shapes import is_name, is_tuple_of


def is_pair(thing):
    """Whether a thing is a pair of a name and a version."""
    return is_tuple_of(2, thing) and is_name(thing[0]) and is_version(thing[1])


def texts_for(installation, contents):
    """The dict from the pairs of an installation's triples to their texts: NoContents."""
    if not isinstance(contents, dict):
        raise NoContents()
    # A key with True in it would be found in the place of one with 1.
    texts = {pair: text for pair, text in contents.items() if is_pair(pair) and isinstance(text, str)}
    found = {}
    for pair in locks_of(installation):
        if pair not in texts:
            raise NoContents()
        found[pair] = texts[pair]
    return found
