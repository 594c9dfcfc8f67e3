"""The edges of a question that stand, with the times of what happened to them."""


class Fate:
    """What is kept of an edge that stands."""

    def __init__(self, stood):
        # The time from which on the edge stands.
        self.stood = stood
        # The time when it first had a rival, or None.
        self.met = None
        # The pair of its halves, or None.
        self.halves = None
        self.proven = False

    def meet(self, time):
        """Takes note of a rival at a time."""
        if self.met is None:
            self.met = time

    def counted(self, time):
        """Returns the number of ticks that the edge has counted at a time."""
        return (time if self.met is None else self.met) - self.stood


class Edges:
    """The edges of one question. Ticks are not counted one by one: they follow from the times of letters."""

    def __init__(self):
        self._fates = {}
        self._rivals = {}

    def stands(self, edge):
        """Tells whether an edge stands."""
        return edge in self._fates

    def row(self):
        """Returns the list of all edges that stand, in ascending order."""
        return sorted(self._fates)

    def add(self, edge, time):
        """Lets an edge stand from a time on, unless it stands."""
        if edge in self._fates:
            return
        fate = Fate(time)
        # Rivals have all in common but the root.
        rivals = self._rivals.setdefault(edge[:4], [])
        rivals.append(fate)
        if len(rivals) > 1:
            for rival in rivals:
                rival.meet(time)
        self._fates[edge] = fate

    def halve(self, edge, halves, time):
        """Halves an edge that stands; the halves stand from this time on, unless they stand."""
        self._fates[edge].halves = halves
        for half in halves:
            self.add(half, time)

    def prove(self, edge):
        """Proves an edge that stands."""
        self._fates[edge].proven = True

    def has_rival(self, edge):
        """Tells whether an edge that stands has a rival."""
        return self._fates[edge].met is not None

    def is_proven(self, edge):
        """Tells whether an edge that stands is proven."""
        return self._fates[edge].proven

    def halves(self, edge):
        """Returns the pair of the halves of an edge that stands, or None."""
        return self._fates[edge].halves

    def timer(self, edge, time):
        """Returns the timer of an edge at a time, not before its last letter; None if it is without end."""
        fate = self._fates[edge]
        if fate.proven:
            return None
        if fate.halves is None:
            return fate.counted(time)
        timers = [self.timer(half, time) for half in fate.halves]
        ends = [timer for timer in timers if timer is not None]
        return fate.counted(time) + min(ends) if len(ends) > 0 else None
