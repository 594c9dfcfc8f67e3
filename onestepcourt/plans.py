"""Plans: what the lines of a schedule tell, taken line by line."""

from onestepcourt.building import build
from onestepcourt.errors import BadFit, BadProgram, BadSource
from onestepcourt.limits import MOST_INPUTS, MOST_LATE, MOST_LEVEL, MOST_PLAYERS, MOST_WORD
from onestepcourt.meaning import check
from onestepcourt.players import WAYS
from onestepcourt.reading import parse

# The greatest number of a schedule has so many digits.
MOST_DIGITS = 5
ALL_BITS = (7, 13, 31, 61)

# What follows the word with which a line begins, part by part.
FORMS = {
    "court": ("bits", "bond", "patience", "late"),
    "player": ("way", "number", "coins"),
    "ask": ("player", "program", "level", "words"),
    "again": ("player", "program", "level", "question"),
    "tick": ("times",),
    "deed": ("player",),
    "deliver": ("place",),
    "double": ("place",),
    "lose": ("place",),
}


class Plan:
    """The settings of a world and its events, as far as they were told."""

    def __init__(self):
        self._court = ()
        self._players = []
        self._images = []
        self._events = []
        # Whether another line than those of the court and the players was taken.
        self._began = False

    def has_player(self):
        """Tells whether a player was told."""
        return len(self._players) > 0

    def settings(self):
        """Returns the tuple of the numbers of the world and of the players."""
        return self._court + (tuple(self._players),)

    def events(self):
        """Returns the tuple of the events."""
        return tuple(self._events)

    def take(self, parts):
        """Takes the parts of a line; returns whether the line has its form and may stand here."""
        name = parts[0]
        if name not in FORMS or not self._may_come(name):
            return False
        told = ["1"] if parts == ["tick"] else parts[1:]
        if len(told) != len(FORMS[name]):
            return False
        values = [self._value(part, kind) for part, kind in zip(told, FORMS[name])]
        if None in values:
            return False
        self._add(name, tuple(values))
        return True

    def take_text(self, lines):
        """Takes a program by its lines; returns whether it has an image and may stand here."""
        if not self._may_come("text"):
            return False
        image = image_of("".join([line + "\n" for line in lines]))
        if image is None:
            return False
        self._images.append(image)
        self._began = True
        return True

    def _may_come(self, name):
        """Tells whether a line that begins with this word may stand here."""
        if len(self._court) == 0 or name == "court":
            return len(self._court) == 0 and name == "court"
        if name == "player":
            return not self._began and len(self._players) < MOST_PLAYERS
        return self.has_player()

    def _add(self, name, values):
        """Adds what a line with these values tells."""
        if name == "court":
            self._court = values
            return
        if name == "player":
            self._players.append(values)
            return
        self._began = True
        if name == "tick":
            self._events.extend([("tick",)] * values[0])
        elif name in ("ask", "again"):
            player, program, level, last = values
            inputs = last if name == "ask" else ("answer", last)
            self._events.append(("ask", player, self._images[program], inputs, level))
        else:
            self._events.append((name,) + values)

    def _value(self, part, kind):
        """Returns the value of such a part of a line, or None if it has not the right form."""
        if kind == "way":
            return part if part == "honest" or part in WAYS else None
        if kind == "words":
            return words_of(part)
        number = number_of(part)
        if number is None or not self._is_within(number, kind):
            return None
        return number

    def _is_within(self, number, kind):
        """Tells whether a number is within the bounds of such a part."""
        if kind == "bits":
            return number in ALL_BITS
        if kind in ("bond", "patience", "times"):
            return number >= 1
        if kind == "late":
            return number <= MOST_LATE
        if kind == "level":
            return number <= MOST_LEVEL
        if kind == "player":
            return number < len(self._players)
        if kind == "program":
            return number < len(self._images)
        return True


def image_of(text):
    """Returns the image that is built of a program, or None if there is none."""
    try:
        return build(check(parse(text)))[0]
    except (BadSource, BadProgram, BadFit):
        return None


def number_of(part):
    """Returns the number that a part of a line stands for, or None."""
    if not part.isascii() or not part.isdigit() or len(part) > MOST_DIGITS:
        return None
    if len(part) > 1 and part[0] == "0":
        return None
    return int(part)


def words_of(part):
    """Returns the tuple of the words that a part of a line stands for, or None."""
    if part == "-":
        return ()
    words = [number_of(item) for item in part.split(",")]
    if len(words) > MOST_INPUTS or None in words or max(words) > MOST_WORD:
        return None
    return tuple(words)
