"""The Shelf: DEFINITIONS of some BOXES of a GEAR, and kept PAIRS of SUMS."""

from slotsure.alike import alike, difference
from slotsure.arrays import need_arrays, need_narrow, rows_by_box, worth_by_rows
from slotsure.deeds import after_deed, after_define, after_undefine, full_by, need_defined
from slotsure.errors import BadArrays, BadName, Full, NoName, TooGreat
from slotsure.gears import need_gear
from slotsure.limits import LONG, PAIRS
from slotsure.sums import need_same_free, need_sum
from slotsure.words import is_name


class Shelf:
    """DEFINITIONS and PAIRS of one GEAR. What a deed is refused for leaves both as they are."""

    def __init__(self, gear):
        need_gear(gear)
        self._gear = gear
        self._definitions = {}
        self._pairs = {}

    def define(self, box, names, given):
        """Puts the BOX as the SUM; NoBox, BadName, BadSum, BadDefinition, Ring, TooGreat, NotSo."""
        self._definitions = after_define(self._gear, self._definitions, box, names, given)

    def undefine(self, box):
        """Takes the DEFINITION of the BOX away; NoBox, NotDefined, TooGreat, NotSo."""
        self._definitions = after_undefine(self._gear, self._definitions, box)

    def keep(self, name, one, other):
        """Keeps the PAIR of SUMS by this NAME, anew as well; BadName, BadSum, Unfit, Full(PAIRS)."""
        if not is_name(name):
            raise BadName("a PAIR is kept by a NAME")
        need_sum(self._gear, one)
        need_sum(self._gear, other)
        need_same_free(one, other)
        if name not in self._pairs and len(self._pairs) >= PAIRS:
            raise Full(PAIRS)
        self._pairs[name] = (one, other)

    def drop(self, name):
        """Keeps the PAIR of this NAME no more; NoName."""
        self._need_kept(name)
        del self._pairs[name]

    def defined(self):
        """A rising list of the BOXES that have DEFINITIONS."""
        return sorted(self._definitions)

    def names(self):
        """A rising list of the NAMES by which PAIRS are kept."""
        return sorted(self._pairs)

    def definition(self, box):
        """The DEFINITION of the BOX, as handed in; NoBox, NotDefined."""
        need_defined(self._gear, self._definitions, box)
        return self._definitions[box]

    def pair(self, name):
        """The PAIR of SUMS that is kept by this NAME; NoName."""
        self._need_kept(name)
        return self._pairs[name]

    def full(self, given):
        """The FULL SUM, one such; TooGreat(LONG), TooGreat(MOST)."""
        need_sum(self._gear, given)
        return full_by(self._definitions, given)

    def verdict(self, name):
        """What alike tells of the FULL SUMS of the PAIR; NoName, and what these are refused with."""
        one, other = self.pair(name)
        whole = full_by(self._definitions, one)
        return alike(self._gear, whole, full_by(self._definitions, other))

    def turned(self, deed):
        """A rising list of the kept NAMES whose verdict's word would be the other one after the deed."""
        after = after_deed(self._gear, self._definitions, deed)
        told = []
        for name in self.names():
            now = self._is_alike(self._definitions, name)
            if self._is_alike(after, name) != now:
                told.append(name)
        return told

    def arrays_of(self, sizes, arrays):
        """ARRAYS of all BOXES, by ARRAYS for those that aren't defined; BadSizes, BadArrays, TooGreat."""
        need_arrays(self._gear, sizes, arrays)
        rows = rows_by_box(self._gear, arrays)
        if not all([rows[box] == () for box in self._definitions]):
            raise BadArrays("defined BOXES have no ROWS")
        told = {box: self._rows_of(rows, box) for box in sorted(self._definitions)}
        return tuple([told.get(name, rows[name]) for name, _, _ in self._gear[1]])

    def gear(self):
        """The GEAR."""
        return self._gear

    def twin(self):
        """Another Shelf of the same, that goes by itself."""
        other = Shelf(self._gear)
        other._definitions = {box: self._definitions[box] for box in self._definitions}
        other._pairs = {name: self._pairs[name] for name in self._pairs}
        return other

    def __eq__(self, other):
        return (
            isinstance(other, Shelf) and self._gear == other._gear
            and self._definitions == other._definitions and self._pairs == other._pairs
        )

    def __len__(self):
        return len(self._definitions)

    def _need_kept(self, name):
        # What is no NAME may be no key, either.
        if not is_name(name) or name not in self._pairs:
            raise NoName(name)

    def _is_alike(self, definitions, name):
        one, other = self._pairs[name]
        whole = full_by(definitions, one)
        return not difference(self._gear, whole, full_by(definitions, other))

    def _rows_of(self, rows, box):
        """The WORTH of the defined BOX's FULL SUM, its numbers in the order of the SLOTS."""
        names, given = self._definitions[box]
        whole = full_by(self._definitions, given)
        need_narrow(rows, whole[1])
        free = [name for name, _, _ in whole[0]]
        places = [free.index(name) for name in names]
        told = [(tuple([row[at] for at in places]), fraction) for row, fraction in worth_by_rows(rows, whole)]
        if len(told) > LONG:
            raise TooGreat(LONG)
        return tuple(sorted(told))
