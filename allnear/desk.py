"""The desk: it keeps a reading, is told lines, and can take back deeds."""

from allnear.desk_asks import answer
from allnear.desk_deeds import done
from allnear.desk_lines import DEEDS, need_kept
from allnear.errors import Nothing
from allnear.texts import items_of


class Desk:
    """A desk that keeps this reading, or none; it is the only value that changes."""

    def __init__(self, reading=None):
        need_kept(reading)
        self.reading = reading
        self.story = ()
        # What was kept ahead of each deed of the story.
        self._before = []
        # The deeds taken back, with the readings that they made, the last one taken back at the end.
        self._undone = []

    def tell(self, line):
        """Does a deed line or answers an ask line, and returns the answer."""
        if items_of(line)[0] not in DEEDS:
            return answer(self.reading, line)
        after, said = done(self.reading, line)
        self._keep(line, after)
        self._undone = []
        return said

    def undo(self):
        """Takes back the last deed line, and returns it."""
        if not self.story:
            raise Nothing()
        line = self.story[-1]
        self._undone.append((line, self.reading))
        self.reading = self._before.pop()
        self.story = self.story[:-1]
        return line

    def redo(self):
        """Does the last deed line that was taken back again, and returns it."""
        if not self._undone:
            raise Nothing()
        line, after = self._undone.pop()
        self._keep(line, after)
        return line

    def _keep(self, line, after):
        """Puts a deed line behind the story, and keeps the reading that it makes."""
        self._before.append(self.reading)
        self.reading = after
        self.story = (*self.story, line)
