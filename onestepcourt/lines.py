"""The forms of single lines: headings, statements, and the expressions in them."""

from onestepcourt.digests import is_word
from onestepcourt.errors import BadSource
from onestepcourt.forms import ATOM, COMPARED, LEAST, NEGATED, RANKS, is_name, is_size
from onestepcourt.limits import MOST_OPEN


def form_of(number, tokens):
    """Returns what the line with this number says, by its tokens; raises BadSource if it has no form.

    It is a statement, an if or a while without its bodies, or a heading or an end with what belongs to it:
    ("table", name, size), ("to", name, params), ("main",), ("else",), ("end",).
    """
    line = Line(number, tokens)
    form = line.form()
    line.finish()
    return form


def number_of(token):
    """Returns the number that a token stands for, or None if there is none."""
    # The length comes first: Python refuses to read numbers of some thousand digits.
    if not token.isdigit() or len(token) > 5 or (len(token) > 1 and token[0] == "0"):
        return None
    return int(token) if is_word(int(token)) else None


def joined(sign, left, right):
    """Returns the expression of a sign or a word between two sides."""
    return (sign, left, right) if sign in ("or", "and") else ("op", sign, left, right)


class Line:
    """Reads the tokens of a line, from the first one on."""

    def __init__(self, number, tokens):
        self._number = number
        self._tokens = tokens
        self._at = 0
        self._opened = 0

    def form(self):
        """Reads a heading, a statement or an end."""
        first = self._take()
        if first in ("main", "else", "end"):
            return (first,)
        if first in ("if", "while", "tell", "give"):
            return (first, self._ranked(LEAST))
        if first == "table":
            return ("table", self._name(), self._size())
        if first == "to":
            return ("to", self._name(), self._params())
        if first == "do":
            return ("do", self._name(), self._args())
        if first == "let":
            return ("let", self._name(), self._value())
        if not is_name(first):
            raise BadSource(self._number, "no line begins like this")
        if self._token() == "[":
            return ("put", first, self._bracketed("[", "]"), self._value())
        return ("set", first, self._value())

    def finish(self):
        """Raises BadSource if a token is left."""
        if self._at < len(self._tokens):
            raise BadSource(self._number, "the line goes on behind its end")

    def _token(self):
        """Returns the next token, or an empty string behind the last one."""
        return self._tokens[self._at] if self._at < len(self._tokens) else ""

    def _take(self):
        token = self._token()
        self._at = self._at + 1
        return token

    def _need(self, token):
        if self._take() != token:
            raise BadSource(self._number, "there is no " + token + " where one is due")

    def _name(self):
        token = self._take()
        if not is_name(token):
            raise BadSource(self._number, "there is no name where one is due")
        return token

    def _size(self):
        size = number_of(self._take())
        if not is_size(size):
            raise BadSource(self._number, "this is no size of a table")
        return size

    def _value(self):
        self._need("=")
        return self._ranked(LEAST)

    def _params(self):
        self._begin("(")
        params = []
        while self._has_more(params):
            params.append(self._name())
        return tuple(params)

    def _args(self):
        self._begin("(")
        args = []
        while self._has_more(args):
            args.append(self._ranked(LEAST))
        return tuple(args)

    def _has_more(self, items):
        """Reads the bracket behind the last item, or the comma between two items."""
        if self._token() == ")":
            self._finish_bracket(")")
            return False
        if len(items) > 0:
            self._need(",")
        return True

    def _begin(self, bracket):
        self._need(bracket)
        self._opened = self._opened + 1
        if self._opened > MOST_OPEN:
            raise BadSource(self._number, "too many brackets are open")

    def _finish_bracket(self, bracket):
        self._need(bracket)
        self._opened = self._opened - 1

    def _bracketed(self, first, last):
        self._begin(first)
        expression = self._ranked(LEAST)
        self._finish_bracket(last)
        return expression

    def _ranked(self, rank):
        """Reads an expression of at least this rank."""
        if rank == ATOM:
            return self._atom()
        if rank == NEGATED:
            return self._negated()
        left = self._ranked(rank + 1)
        while RANKS.get(self._token()) == rank:
            sign = self._take()
            left = joined(sign, left, self._ranked(rank + 1))
            if rank == COMPARED:
                # A comparison has no comparison at its sides.
                return left
        return left

    def _negated(self):
        # Counted, not nested: a line may have some thousand of them.
        many = 0
        while self._token() == "not":
            self._take()
            many = many + 1
        expression = self._ranked(NEGATED + 1)
        for _ in range(many):
            expression = ("not", expression)
        return expression

    def _atom(self):
        if self._token() == "(":
            return self._bracketed("(", ")")
        token = self._take()
        if token == "inputs":
            return ("inputs",)
        if token == "input":
            return ("input", self._bracketed("(", ")"))
        number = number_of(token)
        if number is not None:
            return ("number", number)
        if not is_name(token):
            raise BadSource(self._number, "there is no expression where one is due")
        if self._token() == "(":
            return ("call", token, self._args())
        if self._token() == "[":
            return ("at", token, self._bracketed("[", "]"))
        return ("name", token)
