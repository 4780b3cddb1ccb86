"""Recipes told as texts, read."""

from endsmeet.errors import BadText
from endsmeet.given import check_sheet
from endsmeet.placing import has_two_ways, is_linear
from endsmeet.recipes import MOST_TIMES, is_recipe_of
from endsmeet.scanning import Scanner
from endsmeet.spelling import RANGE, recipe_words
from endsmeet.words import is_figure

MOST_OPEN = 100
TIMES = {"*": (0, None), "+": (1, None), "?": (0, 1)}


def _is_number(word, least):
    """Whether a word is a number without zeros in front, from some least one to 20."""
    # Longer words are not made numbers, however long they are.
    if not 1 <= len(word) <= 2 or not all([is_figure(sign) for sign in word]):
        return False
    return (word == "0" or word[0] != "0") and least <= int(word) <= MOST_TIMES


class Level:
    """What is read within parentheses, or outside of all: the rows between the strokes."""

    def __init__(self, is_turned):
        self.is_turned = is_turned
        self.rows = [[]]

    def last_row(self):
        """The row that is read at present."""
        return self.rows[-1]

    def finished(self):
        """The recipe of all that is read."""
        parts = [row[0] if len(row) == 1 else ("row", tuple(row)) for row in self.rows]
        recipe = parts[0] if len(parts) == 1 else ("either", tuple(parts))
        return ("turned", recipe) if self.is_turned else recipe


class RecipeReader(Scanner):
    """Reads the words of the text of a recipe."""

    def __init__(self, sheet, words, behind):
        Scanner.__init__(self, words, behind)
        self.sheet = sheet
        self.levels = [Level(False)]

    def read(self):
        """Read the whole text, and return its recipe."""
        # Whether the recipe that was read last may be taken several times.
        is_fresh = False
        while self.next_word() != "" or len(self.levels) > 1 or not self.levels[-1].last_row():
            word = self.next_word()
            level = self.levels[-1]
            row = level.last_row()
            if is_fresh and (word in TIMES or word == "{"):
                low, high = self.read_times()
                row[-1] = ("times", row[-1], low, high)
                is_fresh = False
            elif row and word == "|":
                self.take(True)
                level.rows.append([])
                is_fresh = False
            elif row and word == ")" and len(self.levels) > 1:
                self.take(True)
                self.levels.pop()
                row = self.levels[-1].last_row()
                row.append(level.finished())
                is_fresh = True
            else:
                is_fresh = self.read_start(row)
        return self.levels[0].finished()

    def read_start(self, row):
        """Read a block into a row, or the parenthesis that opens a recipe; whether it was the former."""
        is_turned = self.next_word() == "~"
        if is_turned:
            self.take(True)
        name = self.next_word()
        if name == "(":
            self.take(len(self.levels) <= MOST_OPEN)
            self.levels.append(Level(is_turned))
            return False
        self.take(is_linear(self.sheet, name) and (not is_turned or has_two_ways(self.sheet, name)))
        row.append(("block", name, 1 if is_turned else 0))
        return True

    def read_times(self):
        """Read how often a recipe is taken: at least, and at most."""
        word = self.take(True)
        if word in TIMES:
            return TIMES[word]
        word = self.next_word()
        low = int(self.take(_is_number(word, 0) and (word != "0" or self.word_after() == RANGE)))
        high = low
        if self.next_word() == RANGE:
            self.take(True)
            high = None
            if self.next_word() != "}":
                high = int(self.take(_is_number(self.next_word(), max(low, 1))))
        self.take(self.next_word() == "}")
        return low, high

    def word_after(self):
        """The word behind the next one, or an empty string."""
        return self.words[self.at + 1][0] if self.at + 1 < len(self.words) else ""


def read_recipe(sheet, text):
    """The recipe of a text."""
    check_sheet(sheet)
    if not isinstance(text, str):
        raise BadText(0, 0)
    words, behind = recipe_words(text)
    recipe = RecipeReader(sheet, words, behind).read()
    if not is_recipe_of(sheet, recipe):
        raise BadText(0, 0)
    return recipe
