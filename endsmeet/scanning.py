"""Reading the words of a text from left to right."""

from endsmeet.errors import BadText


class Scanner:
    """The words of a text, each with its line and its column, and how far they are read."""

    def __init__(self, words, behind):
        self.words = words
        self.behind = behind
        self.at = 0

    def next_word(self):
        """The next word, or an empty string behind the last one."""
        return self.words[self.at][0] if self.at < len(self.words) else ""

    def take(self, does_fit):
        """Go on behind the next word, if it fits, and return it."""
        if not does_fit:
            line, column = self.words[self.at][1:] if self.at < len(self.words) else self.behind
            raise BadText(line, column)
        word = self.next_word()
        self.at += 1
        return word
