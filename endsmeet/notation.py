"""Pieces told as texts, read and written."""

from endsmeet.errors import BadText, TooLarge
from endsmeet.given import check_sheet
from endsmeet.links import facing_ends
from endsmeet.pieces import MOST_COPIES, Piece, check_piece
from endsmeet.scanning import Scanner
from endsmeet.sheets import MOST_ENDS
from endsmeet.words import is_figure, is_letter, words_in

MOST_MARKS = 99
END_WORDS = ("0", "1", "2", "3")


def _is_mark(word):
    """Whether a word is a number from 1 to 99 without zeros in front."""
    return 1 <= len(word) <= 2 and all([is_figure(sign) for sign in word]) and word[0] != "0"


class Reader(Scanner):
    """Reads the words of the text of a piece."""

    def __init__(self, sheet, words, behind):
        Scanner.__init__(self, words, behind)
        self.sheet = sheet
        self.blocks = []
        self.links = []
        self.named = {}
        self.marks = {}
        self.begun = []

    def read(self):
        """Read the whole text."""
        self.blocks.append(self.take(self.next_word() in self.sheet))
        is_fresh = True
        while self.next_word() != "" or self.begun:
            if is_fresh and self.next_word() == "(":
                self.take(True)
                self.begun.append(len(self.blocks) - 1)
                is_fresh = self.read_part()
            elif self.begun and self.next_word() == ",":
                self.take(True)
                is_fresh = self.read_part()
            else:
                self.take(self.begun and self.next_word() == ")")
                self.begun.pop()
                is_fresh = False
        if any([len(places) == 1 for places in self.marks.values()]):
            raise BadText(self.behind[0], self.behind[1])

    def read_part(self):
        """Read a part up to a mark, or to the name of a copy; whether it was the latter."""
        copy = self.begun[-1]
        ends = self.sheet.ends(self.blocks[copy])
        word = self.next_word()
        is_end = word in END_WORDS and int(word) < len(ends) and (copy, int(word)) not in self.named
        place = (copy, int(self.take(is_end)))
        self.named[place] = True
        wanted = self.sheet.partner(ends[place[1]])
        if self.take(self.next_word() in ("-", "@")) == "@":
            self.read_mark(place, wanted)
            return False
        self.read_copy(place, wanted)
        return True

    def read_copy(self, place, wanted):
        """Read the other end, and the name of a further copy that has it, of the kind that is wanted."""
        end = int(self.take(self.next_word() in END_WORDS))
        name = self.next_word()
        ends = self.sheet.ends(name) if name in self.sheet else ()
        self.blocks.append(self.take(end < len(ends) and ends[end] == wanted))
        other = (len(self.blocks) - 1, end)
        self.named[other] = True
        self.links.append((place, other))

    def read_mark(self, place, wanted):
        """Read a mark that is new, or stands at one end alone, of the kind that is wanted."""
        mark = self.next_word()
        places = self.marks.get(mark, [])
        can_stand = not places or len(places) == 1 and self.kind_at(places[0]) == wanted
        self.take(_is_mark(mark) and can_stand)
        self.marks[mark] = places + [place]
        if places:
            self.links.append((min(places[0], place), max(places[0], place)))

    def kind_at(self, place):
        """The kind of an end."""
        return self.sheet.ends(self.blocks[place[0]])[place[1]]


def read_piece(sheet, told):
    """The piece of a text."""
    check_sheet(sheet)
    if not isinstance(told, str):
        raise BadText(0, 0)
    words = [(word, 1, column) for word, column in words_in(told)]
    if len([word for word, _, _ in words if is_letter(word[0])]) > MOST_COPIES:
        raise TooLarge("the text has more than 200 words with letters")
    reader = Reader(sheet, words, (1, len(told) + 1))
    reader.read()
    return Piece(reader.blocks, sorted(reader.links))


def _item(name, copy, facing, hanging):
    """What is to be written of an item, from its end to its front: strings, and ends that are linked."""
    ends = [(copy, end) for end in range(MOST_ENDS) if (copy, end) in facing and (copy, end) != hanging]
    told = []
    for place in ends:
        told.extend([", " if told else "(", place])
    if told:
        told.append(")")
    told.insert(0, name)
    return told[::-1]


def write_piece(sheet, piece):
    """The text of a piece."""
    check_piece(sheet, piece)
    if len(piece.links) - len(piece) + 1 > MOST_MARKS:
        raise TooLarge("the piece needs more than 99 marks")
    facing = facing_ends(piece.links)
    begun = {0: True}
    marks = {}
    written = []
    waiting = _item(piece.blocks[0], 0, facing, None)
    while waiting:
        place = waiting.pop()
        if isinstance(place, str):
            written.append(place)
            continue
        other = facing[place]
        if other[0] in begun:
            mark = marks.setdefault(min(place, other), len(marks) + 1)
            written.append(f"{place[1]}@{mark}")
        else:
            begun[other[0]] = True
            written.append(f"{place[1]}-{other[1]} ")
            waiting.extend(_item(piece.blocks[other[0]], other[0], facing, other))
    return "".join(written)
