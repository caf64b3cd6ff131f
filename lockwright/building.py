"""Installations built by recipes of strangers, each package behind all that it needs, with kept builds."""

from lockwright.contents import texts_for
from lockwright.errors import NoBuild, Ringed
from lockwright.installations import triples_by_name
from lockwright.needing import in_order, needs_among
from lockwright.running import check_safe


def names_in_order(needs):
    """The names, each behind all that it needs, of those that could be next the least first: Ringed."""
    order = in_order(needs)
    rings = [lot for lot in order if len(lot) > 1]
    if rings:
        raise Ringed(min(rings))
    return [lot[0] for lot in order]


def built(book, installation, sources, recipe):
    """The dict from the names of an installation to what a recipe tells: NotSafe, NoContents, Ringed, NoBuild."""
    return Workshop(recipe).build(book, installation, sources)


class Workshop:
    """A recipe, and what it told so far."""

    def __init__(self, recipe):
        self.recipe = recipe
        # From what the recipe was called with to what it told.
        self.told = {}
        self.triples = []

    def text_for(self, source, triple, parts):
        """What the recipe tells, or told when it was asked alike: NoBuild."""
        asked = (source, triple, parts)
        if asked not in self.told:
            recipe = self.recipe
            text = recipe(source, triple, parts)
            if not isinstance(text, str):
                raise NoBuild(triple[0])
            self.told[asked] = text
            self.triples.append(triple)
        return self.told[asked]

    def build(self, book, installation, sources):
        """The dict from the names of an installation to what was built: NotSafe, NoContents, Ringed, NoBuild."""
        check_safe(book, installation)
        texts = texts_for(installation, sources)
        there = triples_by_name(installation)
        needs = needs_among(book, installation, there)
        found = {}
        for name in names_in_order(needs):
            triple = there[name]
            parts = tuple([(other, found[other]) for other in sorted(set(needs[name]))])
            found[name] = self.text_for(texts[(name, triple[1])], triple, parts)
        return found

    def made(self):
        """The triples for which the recipe told a text, in order."""
        return tuple(self.triples)
