"""Lines of consoles, read by their forms."""

from eitherbarter.booktexts import read_side
from eitherbarter.lexemes import Reader

# What follows behind the first word of a line.
FORMS = {
    "forward": "name", "back": "name", "nail": "name", "free": "name", "drop": "name", "good": "name", "lose": "name",
    "goal": "goal", "bring": "numbers", "fetch": "numbers", "add": "barter", "undo": "", "redo": "", "keep": "name",
    "show": "", "due": "", "left": "", "paid": "", "plan": "", "square": "", "way": "", "nails": "", "has": "name",
    "to": "name",
}


def read_line(line):
    """The first word of a line, and what is told behind it.

    That is a name, a list of numbers, still in digits, a triple of a name and two sides, or None.
    """
    reader = Reader(line)
    word = reader.take_any(list(FORMS))
    told = read_behind(reader, FORMS[word])
    reader.take_end()
    return word, told


def read_behind(reader, form):
    """What stands behind the first word of a line, which must have this form."""
    if form == "name":
        return reader.take_sort("word")
    if form == "numbers" or (form == "goal" and reader.sees("(")):
        return reader.take_list("number")
    if form == "barter":
        name = reader.take_sort("word")
        taken = read_side(reader)
        reader.take("to")
        return (name, taken, read_side(reader))
    return None
