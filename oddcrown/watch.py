"""Watches: games that are changed, and what they are worth behind each change (points 63 to 67)."""

from oddcrown.errors import BadEntry, CrownError, NothingToRedo, NothingToUndo
from oddcrown.games import check_game, copied
from oddcrown.stages import Stage, changed, check_place
from oddcrown.surely import standings


class Watch:
    """A game with deeds that change it, each of which can be undone and redone."""

    def __init__(self, game):
        check_game(game)
        self._stage = Stage(copied(game), [])
        # The stages ahead of each deed that is in force, and behind each one that is undone, the next one last.
        self._past = []
        self._undone = []
        self._entries = []

    def __len__(self):
        """Return how many branches are struck out."""
        return len(self._stage.out)

    def mark(self, place, mark):
        """Give the place the mark, and return the places with another value than before."""
        return self.do_all([("mark", place, mark)])

    def strike(self, place, branch):
        """Strike the branch out, and return the places with another value than before."""
        return self.do_all([("strike", place, branch)])

    def put(self, place, branch):
        """Put the branch back, and return the places with another value than before."""
        return self.do_all([("put", place, branch)])

    def turn(self, place, chances):
        """Give the draw these chances, and return the places with another value than before."""
        return self.do_all([("turn", place, chances)])

    def undo(self):
        """Undo the last deed that is in force, and return the places with another value than before."""
        return self.do_all([("undo",)])

    def redo(self):
        """Put the deed that was undone last in force again, and return the places with another value than before."""
        return self.do_all([("redo",)])

    def do_all(self, deeds):
        """Do the deeds together, and return the places with another value than before the first of them."""
        twin = self._behind(deeds)
        before = self.present_values()
        self._take(twin)
        return [place for place, number in enumerate(self.present_values()) if number != before[place]]

    def what_if(self, deeds):
        """Return the values of all places as they would be behind the deeds."""
        return self._behind(deeds).present_values()

    def _behind(self, deeds):
        """Return a watch that is as this one would be behind the deeds."""
        twin = Watch(self.game())
        twin._take(self)
        for entry in deeds:
            twin._do(entry)
        return twin

    def _take(self, other):
        """Become like the other watch."""
        self._stage = other._stage
        self._past = list(other._past)
        self._undone = list(other._undone)
        self._entries = list(other._entries)

    def _do(self, entry):
        """Do the deed of the entry."""
        if entry[0] == "undo":
            self._go_back()
        elif entry[0] == "redo":
            self._go_forth()
        else:
            word, place, told = entry
            behind = changed(self._stage, word, place, told)
            self._past.append(self._stage)
            self._stage = behind
            self._undone = []
        self._entries.append(_copied_entry(entry))

    def _go_back(self):
        if not self._past:
            raise NothingToUndo()
        self._undone.append(self._stage)
        self._stage = self._past.pop()

    def _go_forth(self):
        if not self._undone:
            raise NothingToRedo()
        self._past.append(self._stage)
        self._stage = self._undone.pop()

    def game(self):
        """Return the present game."""
        return self._stage.present()

    def present_values(self):
        """Return the list of the values of the places of the present game."""
        return self._stage.worths()

    def standing(self, place):
        """Return the standing of the place in the present game."""
        check_place(self._stage, place)
        return standings(self.game())[place]

    def struck(self):
        """Return the ascending list of the tuples of a place and the number of a branch that is struck out."""
        return list(self._stage.out)

    @property
    def can_undo(self):
        """True if some deed is in force, otherwise False."""
        return len(self._past) > 0

    @property
    def can_redo(self):
        """True if some deed is undone, otherwise False."""
        return len(self._undone) > 0

    def journal(self):
        """Return the list of the deeds that raised no error, in order."""
        return [_copied_entry(entry) for entry in self._entries]


def _copied_entry(entry):
    return tuple([list(part) if isinstance(part, list) else part for part in entry])


def replay(game, journal):
    """Return the watch that replaying the journal makes."""
    watch = Watch(game)
    for at, entry in enumerate(journal):
        try:
            watch._do(entry)
        except CrownError:
            raise BadEntry(at) from None
    return watch
