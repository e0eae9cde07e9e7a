"""Declarations of one name, of which those that meet cannot all be kept."""


class Rivals:
    """The free declarations of one name: the greatest sum of worths of a good lot, and such lots."""

    def __init__(self, table, worths, declarations):
        """declarations is a list in reading order."""
        self._table = table
        self._worths = worths
        self._order = list(declarations)
        self._blocks = {thing: table.stretch(thing).blocks() for thing in declarations}
        self._deeper_first = [thing for thing in table.top_order()[::-1] if thing in self._blocks]
        self._greatest = self._sum(self._order)

    def weights(self):
        """The dict of the weights, whose sum is the greatest sum of a good lot."""
        return self._weights(self._order)

    def chosen(self):
        """The list of the lot that is kept, in reading order."""
        kept = []
        left = self._order
        greatest = self._greatest
        for declaration in self._order:
            if declaration in left:
                # Those that were passed over may stay among those left: no lot of this sum has them.
                others = self._apart(declaration, left)
                rest = greatest - self._worths[declaration]
                if self._sum(others) == rest:
                    kept.append(declaration)
                    left = others
                    greatest = rest
        return kept

    def always(self):
        """The list of those that are in every good lot of the greatest sum."""
        always = []
        for declaration in self._order:
            others = [other for other in self._order if other != declaration]
            if self._sum(others) < self._greatest:
                always.append(declaration)
        return always

    def never(self):
        """The list of those that are in no good lot of the greatest sum."""
        never = []
        for declaration in self._order:
            others = self._apart(declaration, self._order)
            if self._worths[declaration] + self._sum(others) < self._greatest:
                never.append(declaration)
        return never

    def _apart(self, declaration, declarations):
        """The list of those of some declarations that one of them does not meet."""
        return [other for other in declarations if not self._table.meets(declaration, other)]

    def _sum(self, declarations):
        """The greatest sum of the worths of a good lot of some of them."""
        return sum(list(self._weights(declarations).values()))

    def _weights(self, declarations):
        """What the stretches lack is put on their tops, those with deeper tops first."""
        counted = {thing: True for thing in declarations}
        weights = {}
        for declaration in self._deeper_first:
            if declaration in counted:
                borne = sum([weights.get(block, 0) for block in self._blocks[declaration]])
                lacking = self._worths[declaration] - borne
                if lacking > 0:
                    top = self._table.stretch(declaration).top
                    weights[top] = weights.get(top, 0) + lacking
        return weights
