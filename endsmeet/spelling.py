"""How recipes are spelled: the words of their texts, and the texts that are written."""

from endsmeet.errors import BadText
from endsmeet.words import is_figure, is_letter, words_in

SIGNS = ("~", "(", ")", "|", "{", "}", "*", "+", "?")
RANGE = ".."


def _joined_points(words):
    """The words of a line, where two points that stand together are one word."""
    found = []
    at = 0
    while at < len(words):
        word, column = words[at]
        if word == "." and at + 1 < len(words) and words[at + 1] == (".", column + 1):
            word = RANGE
            at += 1
        found.append((word, column))
        at += 1
    return found


def _is_word_of_recipes(word):
    """Whether something is a name, a number, or a sign that recipes have."""
    return is_letter(word[0]) or is_figure(word[0]) or word in SIGNS or word == RANGE


def recipe_words(text):
    """The words of the text of a recipe, with lines and columns, and the line and the column behind its end."""
    lines = text.split("\n")
    words = []
    for at, told in enumerate(lines):
        for word, column in _joined_points(words_in(told)):
            if not _is_word_of_recipes(word):
                raise BadText(at + 1, column)
            words.append((word, at + 1, column))
    return words, (len(lines), len(lines[-1]) + 1)


def _spelled_within(recipe, forms):
    """The text of a recipe, in parentheses if it is of one of some forms."""
    told = spelled(recipe)
    return f"({told})" if recipe[0] in forms else told


def _spelled_times(low, high):
    """How a text tells how often a recipe is taken."""
    if high is None:
        if low < 2:
            return "+" if low == 1 else "*"
        return "{" + f"{low}.." + "}"
    if low == high:
        return "{" + str(low) + "}"
    return "?" if (low, high) == (0, 1) else "{" + f"{low}..{high}" + "}"


def spelled(recipe):
    """The text of a recipe."""
    form = recipe[0]
    if form == "block":
        return f"~{recipe[1]}" if recipe[2] == 1 else recipe[1]
    if form == "turned":
        return "~(" + spelled(recipe[1]) + ")"
    if form == "times":
        return _spelled_within(recipe[1], ("row", "either", "times")) + _spelled_times(recipe[2], recipe[3])
    if form == "row":
        return " ".join([_spelled_within(part, ("row", "either")) for part in recipe[1]])
    return " | ".join([_spelled_within(part, ("either",)) for part in recipe[1]])
