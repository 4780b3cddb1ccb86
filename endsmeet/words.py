"""What counts as an integer and as a word, and the words of texts."""

LONGEST_WORD = 8


def is_int(thing):
    """Whether a value is an integer; True and False are none."""
    return isinstance(thing, int) and not isinstance(thing, bool)


def is_count(thing):
    """Whether a value is an integer from 0."""
    return is_int(thing) and thing >= 0


def is_letter(sign):
    """Whether a sign is a small letter from a to z."""
    return "a" <= sign <= "z"


def is_word(thing):
    """Whether a value is a string of 1 to 8 small letters."""
    if not isinstance(thing, str) or not 1 <= len(thing) <= LONGEST_WORD:
        return False
    return all([is_letter(sign) for sign in thing])


def is_figure(sign):
    """Whether a sign is a figure from 0 to 9."""
    return "0" <= sign <= "9"


def _end_of_run(told, start, does_belong):
    """Where the signs end that belong together from a place on."""
    end = start
    while end < len(told) and does_belong(told[end]):
        end += 1
    return end


def words_in(told):
    """The runs of letters and of figures in a text, and its other signs but blanks, each with its column."""
    words = []
    start = 0
    while start < len(told):
        end = start + 1
        if is_letter(told[start]):
            end = _end_of_run(told, start, is_letter)
        elif is_figure(told[start]):
            end = _end_of_run(told, start, is_figure)
        if told[start] != " ":
            words.append((told[start:end], start + 1))
        start = end
    return words
