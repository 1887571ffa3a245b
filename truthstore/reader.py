"""Tokens walked from left to right by those who know the grammar."""

from truthstore.faults import Fault, NOT_ALLOWED
from truthstore.tokens import END, NUMBER, SIGN, tokens_of


class Reader:
    """A text's tokens and how far they have been read."""

    def __init__(self, text):
        self.tokens = tokens_of(text)
        self.reached = 0

    def current(self):
        """The token that is to be read, the end's once all are read."""
        return self.tokens[self.reached]

    def step(self):
        """Go on to the token behind; nobody goes on from the end."""
        self.reached += 1

    def stands(self, sign):
        """Whether this sign is to be read."""
        token = self.current()
        return token.kind == SIGN and token.held == sign

    def is_done(self):
        """Whether all tokens are read."""
        return self.current().kind == END

    def refuse(self):
        """Tell that the token that is to be read is not allowed here."""
        raise Fault(NOT_ALLOWED, self.current().place)

    def take_sign(self, sign):
        """Read this sign."""
        if not self.stands(sign):
            self.refuse()
        self.step()

    def take_number(self):
        """Read a number and give back its token."""
        token = self.current()
        if token.kind != NUMBER:
            self.refuse()
        self.step()
        return token
