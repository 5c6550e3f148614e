"""Texts as lexemes: words, numbers and signs; how they are read and written."""

from eitherbarter.errors import BadText
from eitherbarter.words import DIGITS, LETTERS, LONGEST_WORD

SIGNS = "(){},;"
BLANKS = " \n"


def lexemes(text):
    """The list of the lexemes of a text, as triples (sort, lexeme, place)."""
    found, stop = scanned(text)
    if stop < len(text):
        raise BadText(stop)
    return found


def scanned(text):
    """The lexemes up to the first character that begins none, and its place or the length of the text."""
    found = []
    place = 0
    while place < len(text):
        if text[place] in BLANKS:
            place += 1
            continue
        lexeme = lexeme_at(text, place)
        if lexeme is None:
            return found, place
        found.append(lexeme)
        place += len(lexeme[1])
    return found, place


def lexeme_at(text, place):
    """The lexeme that begins at a place, or None."""
    sign = text[place]
    if sign in SIGNS:
        return ("sign", sign, place)
    if sign in LETTERS:
        end = run_end(text, place, LETTERS + DIGITS)
        return ("word", text[place:end], place) if end - place <= LONGEST_WORD else None
    if sign in DIGITS:
        end = place + 1 if sign == "0" else run_end(text, place, DIGITS)
        return ("number", text[place:end], place)
    return None


def run_end(text, place, signs):
    """The first place from this one on that has none of the signs."""
    while place < len(text) and text[place] in signs:
        place += 1
    return place


class Reader:
    """Goes through the lexemes of a text, and raises BadText at its first wrong place."""

    def __init__(self, text):
        self._found, self._stop = scanned(text)
        self._length = len(text)
        self._at = 0

    def sees(self, lexeme):
        """Tells whether the next lexeme is this sign or word."""
        return self._at < len(self._found) and self._found[self._at][1] == lexeme

    def take(self, lexeme):
        """Goes on behind this sign or word, which must come next."""
        if not self.sees(lexeme):
            raise BadText(self.wrong_place())
        self._at += 1

    def take_sort(self, sort):
        """Goes on behind the next lexeme, which must be of this sort, and returns it."""
        if self._at == len(self._found) or self._found[self._at][0] != sort:
            raise BadText(self.wrong_place())
        self._at += 1
        return self._found[self._at - 1][1]

    def take_any(self, words):
        """Goes on behind the next lexeme, which must be one of these words, and returns it."""
        if self._at == len(self._found) or self._found[self._at][1] not in words:
            raise BadText(self.wrong_place())
        self._at += 1
        return self._found[self._at - 1][1]

    def take_list(self, sort):
        """Goes on behind ( and ) and lexemes of this sort between them, with commas, and returns the list of these."""
        told = []
        self.take("(")
        if not self.sees(")"):
            told.append(self.take_sort(sort))
            while self.sees(","):
                self.take(",")
                told.append(self.take_sort(sort))
        self.take(")")
        return told

    def take_end(self):
        """Nothing but blanks and line feeds may be left."""
        if self._at < len(self._found) or self._stop < self._length:
            raise BadText(self.wrong_place())

    def wrong_place(self):
        """The first wrong place if the next lexeme, or that there is none, is wrong."""
        return self._found[self._at][2] if self._at < len(self._found) else self._stop


def written(parts):
    """The written text with these lexemes."""
    text = ""
    for part in parts:
        if text and text[-1] not in "(\n" and part not in (")", ",", ";"):
            text += " "
        text += part
        if part in ("{", "}", ";"):
            text += "\n"
    return text


def with_commas(rows):
    """The lexemes of all rows, with a comma between each two rows, all in ( and )."""
    parts = ["("]
    for k, row in enumerate(rows):
        if k > 0:
            parts.append(",")
        parts.extend(row)
    parts.append(")")
    return parts
