"""The tokens of a line: words, numbers and signs."""

PAIRS = ("==", "!=", "<=", ">=")
SINGLES = ("(", ")", "[", "]", ",", "=", "+", "-", "*", "/", "<", ">")


def tokens_of(line):
    """Returns the list of the tokens of a line, or None if it has characters that have no place there."""
    if not all([may_stand(sign) for sign in line]):
        return None
    text = line.partition("#")[0]
    tokens = []
    at = 0
    while at < len(text):
        if text[at] == " ":
            at = at + 1
            continue
        token = token_at(text, at)
        if token is None:
            return None
        tokens.append(token)
        at = at + len(token)
    return tokens


def may_stand(sign):
    """Tells whether a character may stand in a line, also in a comment."""
    # 37 is the percent sign.
    return 32 <= ord(sign) <= 126 and ord(sign) != 37


def token_at(text, at):
    """Returns the longest token that begins at a place, or None if there is none."""
    if text[at:at + 2] in PAIRS:
        return text[at:at + 2]
    if text[at] in SINGLES:
        return text[at]
    end = at
    while end < len(text) and text[end].isalnum():
        end = end + 1
    return text[at:end] if end > at else None
