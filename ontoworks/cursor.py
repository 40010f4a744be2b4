"""A text that is being read: its tokens, and which of them comes next."""

from ontoworks.errors import FaultyText
from ontoworks.tokens import is_name, place, split_tokens


class Cursor:
    """The tokens of a text are read one after the other, never back; the end token is never passed."""

    def __init__(self, text):
        self.text = text
        self.tokens = split_tokens(text)
        self.at = 0

    def word(self):
        """Return the word of the next token: of the end token, the empty string."""
        return self.tokens[self.at][1]

    def word_behind(self):
        """Return the word of the token behind the next one, which must not be the end token."""
        return self.tokens[self.at + 1][1]

    def at_end(self):
        """Tell whether the next token is the end token."""
        return self.tokens[self.at][0] == "end"

    def step(self):
        """Go on to the token behind the next one."""
        self.at += 1

    def expect(self, word):
        """Go on behind a sign or a reserved word, which has to stand here."""
        if self.word() != word:
            self.fail(f"expected {word}")
        self.step()

    def take_name(self):
        """Return the name that has to stand here, and go on behind it."""
        word = self.word()
        if not is_name(word):
            self.fail("expected a name")
        self.step()
        return word

    def here(self):
        """Return the pair (line, column) of the next token."""
        return place(self.text, self.tokens[self.at][2])

    def fail(self, reason):
        """Raise FaultyText with a reason about the next token."""
        line, column = self.here()
        raise FaultyText(line, column, reason)
