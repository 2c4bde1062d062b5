"""The desk: it keeps things under names, and does commands."""

from etaparts.answers import answer_told, thing_made
from etaparts.commands import is_deed, is_deed_word, parts_read, shape_of, word_of
from etaparts.errors import CommandFailed, InvalidCommand, InvalidDeeds, LimitError, MissingError, NameTaken
from etaparts.errors import NothingToRedo, NothingToUndo, SeriesError, StateError, TooMany, UnknownName

# Parts of commands that are names of things that are kept.
KEPT = ("kind", "product", "sum", "name", "other")


class Desk:
    """Things under names; what is done with them can be taken back."""

    def __init__(self):
        # The things by their names. Each deed makes a new dict, so what is told of the one ahead of it stays.
        self._things = {}
        # The deeds, with the things ahead of each; those that were taken back, with the things behind each.
        self._deeds = []
        self._undone = []

    def names(self):
        """The sorted list of the names."""
        return sorted(self._things)

    def lines(self):
        """The list of the lines of the deeds that are not taken back."""
        return [line for line, _ in self._deeds]

    def __len__(self):
        return len(self._deeds)

    def __getitem__(self, at):
        if not isinstance(at, str) or at not in self._things:
            raise UnknownName(at)
        return self._things[at]

    def __contains__(self, x):
        return isinstance(x, str) and x in self._things

    def __iter__(self):
        raise TypeError("a desk is not iterated over")

    def __call__(self, command):
        return self.do(command)

    def do(self, command):
        """The answer to the command."""
        parts = parts_read(command) if isinstance(command, str) else None
        if parts is None:
            raise InvalidCommand(command)
        word = word_of(command)
        given = self._given(shape_of(word), parts)
        if is_deed_word(word):
            return self._done(command, word, parts, given)
        if word == "undo":
            return self._taken_back()
        if word == "redo":
            return self._done_again()
        if word == "names":
            return " ".join(self.names()) if self._things else "-"
        return answer_told(word, given)

    def _given(self, shape, parts):
        """The parts, with the things in the place of their names, and without a new name."""
        for sort, part in zip(shape, parts):
            if sort == "new" and part in self._things:
                raise NameTaken(part)
        given = []
        for sort, part in zip(shape, parts):
            if sort in KEPT:
                wanted = given[0][0] if sort == "other" else sort
                if part not in self._things or wanted not in ("name", self._things[part][0]):
                    raise UnknownName(part)
                given.append(self._things[part])
            elif sort != "new":
                given.append(part)
        return given

    def _done(self, command, word, parts, given):
        # What is kept under the first part is made, made anew, or dropped.
        name = parts[0]
        things = {kept: self._things[kept] for kept in self._things if kept != name}
        if word != "drop":
            things[name] = thing_made(word, given)
        if len(things) > 16:
            raise TooMany("names", 16)
        if len(self._deeds) >= 200:
            raise TooMany("deeds", 200)
        self._deeds = self._deeds + [(command, self._things)]
        self._things = things
        self._undone = []
        return "-"

    def _taken_back(self):
        if not self._deeds:
            raise NothingToUndo()
        line, things = self._deeds[-1]
        self._undone = self._undone + [(line, self._things)]
        self._deeds = self._deeds[:-1]
        self._things = things
        return line

    def _done_again(self):
        if not self._undone:
            raise NothingToRedo()
        line, things = self._undone[-1]
        self._deeds = self._deeds + [(line, self._things)]
        self._undone = self._undone[:-1]
        self._things = things
        return line

    def do_all(self, *commands):
        """The list of the answers; if one command fails, none has an effect."""
        trial = self.twin()
        answers = []
        for position, command in enumerate(commands):
            try:
                answers.append(trial.do(command))
            except (SeriesError, MissingError, StateError, LimitError) as wrong:
                raise CommandFailed(position) from wrong
        self._take(trial)
        return answers

    def _take(self, other):
        # No list or dict of a desk is ever changed, only replaced, so two desks can share them.
        self._things = other._things
        self._deeds = other._deeds
        self._undone = other._undone

    def twin(self):
        """A desk that goes on by itself from here."""
        desk = Desk()
        desk._take(self)
        return desk

    @classmethod
    def again(cls, lines):
        """A desk that has done these deeds."""
        if not isinstance(lines, (list, tuple)):
            raise InvalidDeeds(None)
        for position, line in enumerate(lines):
            if not is_deed(line):
                raise InvalidDeeds(position)
        desk = cls()
        desk.do_all(*lines)
        return desk
