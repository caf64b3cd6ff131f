"""Contents fetched from mirrors that may lie, each judged by its digest in a manifest."""

from lockwright.contents import is_pair
from lockwright.errors import NoManifest, NoMirrors, NotFetched
from lockwright.locks import locks_of
from lockwright.shapes import is_number
from lockwright.strangers import is_function

MIRRORS_MOST = 5
DIGEST_BEGIN = 7
DIGEST_FACTOR = 131
DIGEST_MODULUS = 2305843009213693951


def digest(text):
    """The digest of a text."""
    found = DIGEST_BEGIN
    for sign in text:
        found = (DIGEST_FACTOR * found + ord(sign)) % DIGEST_MODULUS
    return found


def is_mirrors(thing):
    """Whether a thing is a tuple of 1 to 5 functions."""
    if not isinstance(thing, tuple) or not 1 <= len(thing) <= MIRRORS_MOST:
        return False
    for mirror in thing:
        if not is_function(mirror):
            return False
    return True


def is_manifest(thing):
    """Whether a thing is a dict from pairs (name, version) to numbers."""
    if not isinstance(thing, dict):
        return False
    for pair, number in thing.items():
        if not is_pair(pair) or not is_number(number):
            return False
    return True


def digests_for(mirrors, manifest, pairs):
    """The dict from some pairs to their digests in a manifest, in their order: NoMirrors, NoManifest."""
    if not is_mirrors(mirrors):
        raise NoMirrors()
    if not is_manifest(manifest):
        raise NoManifest()
    found = {}
    for pair in pairs:
        if not is_pair(pair) or pair not in manifest:
            raise NoManifest()
        found[pair] = manifest[pair]
    return found


def first_told(mirrors, pair, number):
    """The pair of the first text with a digest that mirrors tell of a pair, and which mirror it was: NotFetched."""
    for at, mirror in enumerate(mirrors):
        text = mirror(pair[0], pair[1])
        if isinstance(text, str) and digest(text) == number:
            return (text, at)
    raise NotFetched(pair)


def fetched(mirrors, manifest, name, version):
    """The pair of the text of a package, and the number of its mirror: NoMirrors, NoManifest, NotFetched."""
    pair = (name, version)
    digests = digests_for(mirrors, manifest, (pair,))
    return first_told(mirrors, pair, digests[pair])


def fetched_all(mirrors, manifest, installation):
    """The dict from the pairs of an installation to their texts: NoMirrors, NoManifest, NotFetched."""
    digests = digests_for(mirrors, manifest, locks_of(installation))
    found = {}
    for pair, number in digests.items():
        found[pair] = first_told(mirrors, pair, number)[0]
    return found
