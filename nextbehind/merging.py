"""The merge of tuples of names, and the clash that stands in its way where there is none."""

from nextbehind.errors import BadTuple, Clash
from nextbehind.names import are_different_names, is_name
from nextbehind.params import is_index

_STEP_PARTS = 3
_FEWEST_STEPS = 2


class Merge:
    """A merge of rows of names while it is made, from which names can also be dropped.

    A name can be taken when it is first in each row that still has it. So the first of its rows
    tells which of several such names the merge takes, and the lowest bit of a number finds it.
    """

    def __init__(self, rows):
        self.rows = rows
        self.places = _places(rows)
        self.gone = {}
        self.heads = [0] * len(rows)
        self.behind = {name: len([at for index, at in self.places[name] if at > 0]) for name in self.places}
        # Each name that can be taken is there as the bit of the first of its rows.
        self.ready = 0
        for name in self.places:
            self._prepare(name)

    def draw(self):
        """Take names until the merge is done or stuck, and return them in its order."""
        names = []
        while self.ready:
            index = (self.ready & -self.ready).bit_length() - 1
            self.ready &= self.ready - 1
            name = self.rows[index][self.heads[index]]
            self.drop(name)
            names.append(name)
        return names

    def drop(self, name):
        """Remove a name from all rows."""
        self.gone[name] = True
        for index, at in self.places[name]:
            if at == self.heads[index]:
                self._advance(index)

    def _advance(self, index):
        row = self.rows[index]
        at = self.heads[index]
        while at < len(row) and row[at] in self.gone:
            at += 1
        self.heads[index] = at
        if at < len(row):
            head = row[at]
            self.behind[head] -= 1
            self._prepare(head)

    def _prepare(self, name):
        if self.behind[name] == 0:
            self.ready |= 1 << self.places[name][0][0]

    def ring(self, start, limit):
        """Return the fewest steps from a name back to it, or () if they are more than the limit."""
        # The steps that end a ring: with them the search can stop one step earlier.
        last = {name: (name, start, index) for index, at in self.places[start] for name in self.rows[index][:at]}
        # Behind these positions every name of the row is reached already.
        ends = [len(row) for row in self.rows]
        steps = {start: None}
        level = [start]
        while level:
            met = [name for name in level if name in last]
            if met:
                return _steps_to(steps, met[0]) + (last[met[0]],)
            limit -= 1
            if limit == 0:
                break
            fresh = []
            for name in level:
                for index, at in self.places[name]:
                    tail = self.rows[index][at + 1:ends[index]]
                    found = [item for item in tail if item not in steps and item not in self.gone]
                    steps.update({item: (name, item, index) for item in found})
                    fresh.extend(found)
                    ends[index] = min(ends[index], at + 1)
            level = fresh
        return ()


def merged(*tuples):
    """Return the merge of the tuples. Raise Clash, with the fewest steps, if they have none."""
    _check_tuples(tuples)
    merge = Merge(tuples)
    names = merge.draw()
    if len(names) < len(merge.places):
        raise Clash(None, tuples, _fewest_clash(merge))
    return tuple(names)


def is_clash(tuples, thing):
    """Return True if a value is a clash of the tuples."""
    if not isinstance(tuples, tuple):
        raise BadTuple(None)
    _check_tuples(tuples)
    if not isinstance(thing, tuple) or len(thing) < _FEWEST_STEPS:
        return False
    spots = [{name: at for at, name in enumerate(row)} for row in tuples]
    if not all([_is_step(spots, step) for step in thing]):
        return False
    # The index -1 makes the last step the one ahead of the first: so the ring is closed.
    return all([thing[at - 1][1] == thing[at][0] for at in range(len(thing))])


def _check_tuples(tuples):
    for index, row in enumerate(tuples):
        if not are_different_names(row):
            raise BadTuple(index)


def _is_step(spots, thing):
    if not isinstance(thing, tuple) or len(thing) != _STEP_PARTS:
        return False
    one, other, index = thing
    # Only names are looked up: other values may have no hash.
    if not is_name(one) or not is_name(other) or not is_index(index, len(spots)):
        return False
    spot = spots[index]
    return one in spot and other in spot and spot[one] < spot[other]


def _places(rows):
    """Return for each name its places: pairs of the index of a row and the position there."""
    places = {}
    for index, row in enumerate(rows):
        for at, name in enumerate(row):
            places.setdefault(name, []).append((index, at))
    return places


def _fewest_clash(merge):
    """Return a clash with the fewest steps of a merge that is stuck. It is used up by this."""
    clash = ()
    # Of two steps in the same row one could be spared. So the fewest steps are in different rows.
    limit = len(merge.rows)
    for name in merge.places:
        if limit < _FEWEST_STEPS:
            break
        if name in merge.gone:
            continue
        ring = merge.ring(name, limit)
        if ring:
            clash = ring
            limit = len(ring) - 1
        # No clash with fewer steps has this name, nor a name that can be taken without it.
        merge.drop(name)
        merge.draw()
    return clash


def _steps_to(steps, name):
    """Return the steps that lead to a name, where each name is given with the step that reached it."""
    path = []
    while steps[name] is not None:
        path.append(steps[name])
        name = steps[name][0]
    return tuple(path[::-1])
