"""What a call does class by class, and the first of some orders on which it ends in a given way."""

from nextbehind.errors import Twice, Unasked, Wanted
from nextbehind.orders import next_places


class Run:
    """A call behind the classes that it has run so far: the options that are left, and its words until then."""

    def __init__(self, options):
        self.options = {option: True for option in options}
        self.before = []
        self.after = []
        self.stopped = False

    def twin(self):
        """Return an equal run that goes on on its own."""
        other = Run(())
        other.options = dict(self.options)
        other.before = list(self.before)
        other.after = list(self.after)
        other.stopped = self.stopped
        return other

    def enter(self, name, method):
        """Run a class with its method. Raise Wanted or Twice if the call is refused there."""
        takes, before, passes, after = method
        for option in takes:
            if option not in self.options:
                raise Wanted(name, option)
            del self.options[option]
        self.before.extend(before)
        if passes is None:
            self.stopped = True
            return
        for option in passes:
            if option in self.options:
                raise Twice(name, option)
            self.options[option] = True
        self.after = [*after, *self.after]

    def words(self):
        """Return the words of the call if it ends here. Raise Unasked if options are left."""
        if self.options:
            raise Unasked(tuple(sorted(self.options)))
        return self.before + self.after


def words_of(future, methods, options):
    """Return the words of a call on a future. Raise the error of the refusal if it is refused."""
    run = Run(options)
    for name in future:
        if name in methods and not run.stopped:
            run.enter(name, methods[name])
    return run.words()


def first_order(names, aheads, methods, options, fits):
    """Return the first order of the names on which a call ends as it should, or None.

    The orders are given as in nextbehind.orders. The function fits is passed the words of a call, or
    None for a call that is refused, and tells whether this is the end that is wanted.
    """
    full = (1 << len(names)) - 1
    # A call that goes on behind some classes has taken and added the same options and says the same
    # words in whatever order they came. So behind each set of classes one search is enough.
    tried = {}
    waiting = [((), 0, Run(options))]
    while waiting:
        order, done, run = waiting.pop()
        if run is None or run.stopped or done == full:
            if fits(_words_or_none(run)):
                return _filled_up(names, aheads, order, done)
        elif done not in tried:
            tried[done] = True
            # The order that is wanted next is the one that is put there last.
            for at in next_places(aheads, done)[::-1]:
                later = _run_behind(run, names[at], methods)
                waiting.append(((*order, names[at]), done | (1 << at), later))
    return None


def _run_behind(run, name, methods):
    """Return the run behind one more class, or None if it is refused there."""
    later = run.twin()
    if name in methods:
        try:
            later.enter(name, methods[name])
        except (Wanted, Twice):
            return None
    return later


def _words_or_none(run):
    """Return the words of a call that ends here, or None if it is refused."""
    if run is None:
        return None
    try:
        return run.words()
    except Unasked:
        return None


def _filled_up(names, aheads, order, done):
    """Return the first order of all names that begins with some of them."""
    while len(order) < len(names):
        at = next_places(aheads, done)[0]
        order = (*order, names[at])
        done |= 1 << at
    return order
