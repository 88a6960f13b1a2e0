"""Meetings by numbers, for each kind of columns that has looks.

In the number of a meeting, bit version * (number of looks of its kind) + place of a look among these is set if the look
is answered with True in the version. So many meetings at once are a mask of numbers.
"""

from rulesmerged.grounds import bit_mask
from rulesmerged.moments import VERSIONS
from rulesmerged.readings import place_from


class Meetings:
    """The meetings of the kinds that have looks."""

    def __init__(self, schema, looks):
        # For each look its kind, for each kind the indexes of its looks and the mask of its meetings.
        self.kinds = [schema.kind_at(place_from(part)) for part in looks]
        self.through, self.known = {}, {}
        # For each tuple (index of a look, version) the masks of the meetings that answer with True and with False.
        self.asking, self.refusing = {}, {}
        for index, kind in enumerate(self.kinds):
            self.through.setdefault(kind, []).append(index)
        for kind, indexes in self.through.items():
            self._number(kind, indexes)

    def _number(self, kind, indexes):
        bits = len(VERSIONS) * len(indexes)
        self.known[kind] = (1 << (1 << bits)) - 1
        for version in VERSIONS:
            for at, index in enumerate(indexes):
                asking = bit_mask(version * len(indexes) + at, bits)
                self.asking[(index, version)] = asking
                self.refusing[(index, version)] = self.known[kind] ^ asking
