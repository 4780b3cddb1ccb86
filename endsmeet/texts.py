"""Sheets told as texts, read and written."""

from endsmeet.errors import BadText
from endsmeet.given import check_sheet
from endsmeet.scanning import Scanner
from endsmeet.sheets import MOST_ENDS, Sheet
from endsmeet.words import is_word, words_in


def _scanner_of(line, told):
    """A scanner of a line with its number."""
    words = [(word, line, column) for word, column in words_in(told)]
    if not words:
        raise BadText(line, 1)
    return Scanner(words, (line, len(told) + 1))


def _take_new(scanner, known):
    """Read a word that is not known yet."""
    word = scanner.next_word()
    return scanner.take(is_word(word) and word not in known)


def _read_entry(scanner, partners):
    """Read a kind, and perhaps its partner."""
    kind = _take_new(scanner, partners)
    partners[kind] = kind
    if scanner.next_word() == "~":
        scanner.take(True)
        other = _take_new(scanner, partners)
        partners[kind] = other
        partners[other] = kind


def _read_kinds(scanner):
    """The kinds and their partners that the first line tells."""
    partners = {}
    scanner.take(scanner.next_word() == "kinds")
    _read_entry(scanner, partners)
    while scanner.next_word() != "":
        scanner.take(scanner.next_word() == ",")
        _read_entry(scanner, partners)
    return partners


def _read_block(scanner, partners, blocks):
    """The name and the ends of the block that a line tells."""
    scanner.take(scanner.next_word() == "block")
    name = _take_new(scanner, blocks)
    scanner.take(scanner.next_word() == ":")
    ends = [scanner.take(scanner.next_word() in partners)]
    while scanner.next_word() != "":
        ends.append(scanner.take(len(ends) < MOST_ENDS and scanner.next_word() in partners))
    return name, tuple(ends)


def read_sheet(told):
    """The sheet of a text."""
    if not isinstance(told, str):
        raise BadText(0, 0)
    lines = told.split("\n")
    if lines[-1] == "":
        lines.pop()
    if not lines:
        raise BadText(1, 1)
    partners = _read_kinds(_scanner_of(1, lines[0]))
    blocks = {}
    for at in range(1, len(lines)):
        name, ends = _read_block(_scanner_of(at + 1, lines[at]), partners, blocks)
        blocks[name] = ends
    return Sheet(partners, blocks)


def write_sheet(sheet):
    """The text of a sheet."""
    check_sheet(sheet)
    entries = []
    for joint in sheet.joints():
        other = sheet.partner(joint)
        entries.append(joint if other == joint else f"{joint} ~ {other}")
    lines = ["kinds " + ", ".join(entries)]
    for name in sheet:
        lines.append(f"block {name}: " + " ".join(sheet.ends(name)))
    return "\n".join(lines) + "\n"
