"""A Board: a LATHE, a BAR in it, and DEEDS that work at it in a line."""

from screwshop.bars import bar_with, depth_at
from screwshop.basics import ONE, ZERO, add, greater, is_within, lesser, round_by, tupled
from screwshop.errors import NothingDone, Unfit
from screwshop.passes import cut_groove, dial_shows, run_out


class Board:
    """A LATHE whose SCREW is not worn, a BAR, the spindle and the carriage, and the line of DEEDS."""

    def __init__(self, lathe, length):
        self._lathe, self._length = tupled((lathe, length))
        self._line = []
        self._undone = []
        # as it stood at first, and behind each DEED of the line: the BAR, by how much the spindle is turned, the PLACE
        self._stood = [((self._length, ()), ZERO, ZERO)]

    def bar_now(self):
        """The BAR, plain."""
        return self._stood[-1][0]

    def stand_now(self):
        """By how much the spindle is turned, and the PLACE of the carriage."""
        return self._stood[-1][1:]

    def dial_now(self):
        """What the DIAL would show if the nut closed now, and the number of the mark that is met, or None."""
        turned, place = self.stand_now()
        return dial_shows(self._lathe, turned, place)

    def depth_here(self):
        """The depth of the POINT at which the tool is."""
        turned, place = self.stand_now()
        return depth_at(self.bar_now(), (place, round_by(turned, ONE)))

    def deeds(self):
        """The list of the DEEDS of the line."""
        return list(self._line)

    def do(self, deed):
        """Do this DEED."""
        deed = tupled(deed)
        self._stood.append(self._behind(deed))
        self._line.append(deed)
        self._undone = []

    def cut_to(self, end, depth):
        """Do the DEED of a cut to end."""
        self.do(("cut", end, depth))

    def undo(self):
        """Take back the last DEED, and return it."""
        if not self._line:
            raise NothingDone()
        deed = self._line.pop()
        self._undone.append((deed, self._stood.pop()))
        return deed

    def redo(self):
        """Put back the DEED that was undone last, and return it."""
        if not self._undone:
            raise NothingDone()
        deed, stood = self._undone.pop()
        self._line.append(deed)
        self._stood.append(stood)
        return deed

    def _behind(self, deed):
        """How it stands behind this DEED; what it raises if it is refused."""
        bar, (turned, place) = self.bar_now(), self.stand_now()
        if deed[0] == "spin":
            return (bar, add(turned, deed[1]), place)
        if deed[0] == "carry":
            self._refuse_beyond(deed[1])
            return (bar, turned, deed[1])
        if deed[0] == "ring":
            return (bar_with(bar, (("ring", place), place, place, deed[1])), turned, place)
        _, end, depth = deed
        self._refuse_beyond(end)
        if end == place:
            raise Unfit()
        if deed[0] == "plane":
            line = ("flute", round_by(turned, ONE))
            return (bar_with(bar, (line, lesser(place, end), greater(place, end), depth)), turned, end)
        groove = cut_groove(self._lathe, (turned, place, end, depth))
        return (bar_with(bar, groove), run_out(self._lathe, turned, place, end), end)

    def _refuse_beyond(self, place):
        """Unfit() if place is not from 0 to the length."""
        if not is_within(place, ZERO, self._length):
            raise Unfit()

    def __eq__(self, other):
        return (isinstance(other, Board) and self._lathe == other._lathe and self._length == other._length
                and self._line == other._line)

    def __len__(self):
        return len(self._line)
