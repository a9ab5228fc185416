"""A line of a rule: its tokens, and a reader that goes along them."""

from soleheld.errors import BadRule
from soleheld.words import OWN, is_figures, is_name, is_number, is_word

SIGNS = ("+", "-", "*", "/", "<", "<=", "=", "(", ")", "[", "]", ",")
LONGEST_LINE = 120
LONGEST_NUMBER = 9
MOST_OPEN = 10


def token_end(text, at):
    """The index behind the longest run of characters from an index on that could be a token."""
    if text[at:at + 2] == "<=":
        return at + 2
    end = at + 1
    if text[at].isalnum():
        while end < len(text) and text[end].isalnum():
            end += 1
    return end


def is_numeral(token):
    """Whether a token is a number as the language writes it."""
    return is_figures(token) and len(token) <= LONGEST_NUMBER and (token == "0" or not token.startswith("0"))


def tokens_of(text, number):
    """The tokens of the line with a number."""
    tokens = []
    at = 0
    while at < len(text):
        end = token_end(text, at)
        token = text[at:end]
        if is_word(token) or is_numeral(token) or token in SIGNS:
            tokens.append(token)
        elif token != " ":
            raise BadRule(number, "form")
        at = end
    return tokens


def check_brackets(tokens, number):
    """Refuses a line in which too many brackets are open at some place."""
    many = 0
    for token in tokens:
        if token in ("(", "["):
            many += 1
        elif token in (")", "]"):
            many = max(many - 1, 0)
        if many > MOST_OPEN:
            raise BadRule(number, "deep")


class Line:
    """The tokens of a line, taken one by one. What does not fit the pattern of a line is the fault `form`."""

    def __init__(self, number, text):
        if len(text) > LONGEST_LINE:
            raise BadRule(number, "form")
        self.number = number
        self.tokens = tokens_of(text, number)
        check_brackets(self.tokens, number)
        self.at = 0

    def is_empty(self):
        """Whether the line has no token at all."""
        return self.tokens == []

    def ahead(self):
        """The next token, the empty string behind the last one."""
        return self.tokens[self.at] if self.at < len(self.tokens) else ""

    def take(self):
        """The next token, of any kind."""
        token = self.ahead()
        self.at += 1
        return token

    def skip(self, token):
        """Takes a token if it is the next one, and says whether it was."""
        found = self.ahead() == token
        if found:
            self.at += 1
        return found

    def expect(self, token):
        """Takes a token that must be the next one."""
        if not self.skip(token):
            raise BadRule(self.number, "form")

    def take_name(self):
        """Takes a name."""
        token = self.take()
        if not is_name(token) or token in OWN:
            raise BadRule(self.number, "form")
        return token

    def take_names(self):
        """Takes all that is left, as names."""
        names = []
        while self.at < len(self.tokens):
            names.append(self.take_name())
        return names

    def take_number(self, least, most):
        """Takes a number of a range."""
        token = self.take()
        if not is_figures(token) or not is_number(int(token), least, most):
            raise BadRule(self.number, "form")
        return int(token)

    def finish(self):
        """Refuses what is left."""
        if self.at < len(self.tokens):
            raise BadRule(self.number, "form")
