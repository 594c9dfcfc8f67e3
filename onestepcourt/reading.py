"""Reading: from a text to a source tree."""

from onestepcourt.errors import BadSource
from onestepcourt.forms import is_tree
from onestepcourt.limits import MOST_TEXT
from onestepcourt.lines import form_of
from onestepcourt.tokens import tokens_of


def parse(text):
    """Returns the source tree of a text, or raises BadSource with the first wrong line."""
    if not isinstance(text, str):
        raise BadSource(0, "this is no text")
    if len(text) > MOST_TEXT:
        raise BadSource(0, "the text is too long")
    outline = Outline()
    lines = text.split("\n")
    for number, line in enumerate(lines, start=1):
        tokens = tokens_of(line)
        if tokens is None:
            raise BadSource(number, "the line has characters that stand for nothing")
        if len(tokens) > 0 and not outline.take(form_of(number, tokens)):
            raise BadSource(number, "another line is due, or none")
    if not outline.is_complete():
        raise BadSource(len(lines), "the text ends too early")
    tree = outline.tree()
    if not is_tree(tree):
        raise BadSource(0, "there are too many parts, or too many one in the other")
    return tree


class Block:
    """A function, the main part, an if or a while whose end was not read yet."""

    def __init__(self, head):
        self.head = head
        self.body = []
        # The other body of an if, from its else on.
        self.other = None

    def add(self, statement):
        """Adds a statement to the body that is being read."""
        if self.other is None:
            self.body.append(statement)
        else:
            self.other.append(statement)

    def statement(self):
        """Returns the statement of an if or a while that has ended."""
        if self.head[0] == "while":
            return self.head + (tuple(self.body),)
        return self.head + (tuple(self.body), tuple(self.other or ()))


class Outline:
    """Puts the forms of lines together, and knows which ones may stand next."""

    def __init__(self):
        self._tables = []
        self._functions = []
        self._main = None
        # From the function or main part inwards. A list, as bodies may stand in each other a thousand times.
        self._blocks = []

    def take(self, form):
        """Takes the form of the next line; returns whether it can stand there."""
        return self._take_outside(form) if len(self._blocks) == 0 else self._take_inside(form)

    def is_complete(self):
        """Tells whether the text may end here."""
        return self._main is not None

    def tree(self):
        """Returns the tree of all that was taken."""
        return ("program", tuple(self._tables), tuple(self._functions), self._main)

    def _take_outside(self, form):
        if self._main is not None:
            return False
        if form[0] == "table" and len(self._functions) == 0:
            self._tables.append(form[1:])
            return True
        if form[0] in ("to", "main"):
            self._blocks.append(Block(form))
            return True
        return False

    def _take_inside(self, form):
        block = self._blocks[-1]
        if form[0] in ("table", "to", "main"):
            return False
        if form[0] == "else":
            if block.head[0] != "if" or block.other is not None:
                return False
            block.other = []
        elif form[0] == "end":
            self._close(self._blocks.pop())
        elif form[0] in ("if", "while"):
            self._blocks.append(Block(form))
        else:
            block.add(form)
        return True

    def _close(self, block):
        if block.head[0] == "to":
            self._functions.append(block.head[1:] + (tuple(block.body),))
        elif block.head[0] == "main":
            self._main = tuple(block.body)
        else:
            self._blocks[-1].add(block.statement())
