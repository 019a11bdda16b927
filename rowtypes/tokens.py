"""Cutting a text into tokens, and going through them one by one."""

from rowtypes.errors import BadText

LETTERS = "abcdefghijklmnopqrstuvwxyz"
DIGITS = "0123456789"
BLANKS = " \n"
LONGEST_TEXT = 600
LONGEST_RUN = 6

# No rule of a language takes this sign, so it can stand for all that fits nowhere.
NOWHERE = "?"
# Behind the last token there is this one.
END = ""


def _run_end(text, start, signs):
    at = start
    while at < len(text) and text[at] in signs:
        at += 1
    return at


def _word(text, at):
    end = _run_end(text, at, LETTERS)
    if end - at > LONGEST_RUN:
        return NOWHERE, end
    return text[at:end], end


def _number(text, at):
    end = _run_end(text, at, DIGITS)
    if end - at > LONGEST_RUN or (text[at] == "0" and end - at > 1):
        return NOWHERE, end
    return text[at:end], end


def _sign(text, at, signs):
    for sign in signs:
        end = at + len(sign)
        if text[at:end] == sign:
            return sign, end
    return NOWHERE, at + 1


def _token(text, at, signs):
    if text[at] in LETTERS:
        return _word(text, at)
    if text[at] in DIGITS:
        return _number(text, at)
    return _sign(text, at, signs)


def split_tokens(text, signs):
    """The list of the tokens; a sign that begins another one stands behind it in signs."""
    found = []
    at = 0
    while at < len(text):
        if text[at] in BLANKS:
            at += 1
        else:
            token, at = _token(text, at, signs)
            found.append(token)
    return found


class Tokens:
    """The tokens of a text, and how many of them are taken."""

    def __init__(self, text, signs):
        if len(text) > LONGEST_TEXT:
            raise BadText(0, "text too long")
        self.rows = split_tokens(text, signs)
        self.taken = 0

    def ahead(self):
        """The token that comes, END if there is none."""
        if self.taken < len(self.rows):
            return self.rows[self.taken]
        return END

    def take(self):
        """The token that comes, which is taken."""
        token = self.ahead()
        self.taken += 1
        return token

    def skip(self, token):
        """Whether this token comes, which is then taken."""
        if self.ahead() != token:
            return False
        self.taken += 1
        return True

    def expect(self, token):
        """Take this token; refuse the text if another one comes."""
        if not self.skip(token):
            self.refuse()

    def refuse(self):
        """Refuse the text at the token that comes."""
        if self.ahead() == END:
            raise BadText(self.taken + 1, "unexpected end")
        raise BadText(self.taken + 1, "unexpected token")

    def finish(self):
        """Refuse the text if a token comes."""
        if self.ahead() != END:
            self.refuse()
