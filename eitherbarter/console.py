"""Consoles: they do what lines say, and answer them."""

from eitherbarter.booktexts import are_parts, told_row
from eitherbarter.errors import BadAct, BadText, BarterError, NameMissing
from eitherbarter.lines import read_line
from eitherbarter.squares import square_of

WAYS = {"forward": 1, "back": -1}


class Console:
    """Speaks for a house."""

    def __init__(self, house):
        self._house = house

    def house(self):
        """The house."""
        return self._house

    def say(self, line):
        """Does what a line says, and returns the answer."""
        try:
            return answer(self._house, line)
        except BadText as wrong:
            return f"no BadText {wrong.place}"
        except BadAct as refused:
            return f"no BadAct {refused.word}"
        except (BarterError, NameMissing) as error:
            return "no " + error.__class__.__name__


def answer(house, line):
    """The answer to a line that raises no error."""
    word, told = read_line(line)
    if word in ALONE:
        tell = ALONE[word]
        return tell(house)
    if word in NAMED:
        tell_of = NAMED[word]
        return tell_of(house, told)
    return str(house.do(act_of(house.book(), word, told)))


def act_of(book, word, told):
    """The act that a line with this first word does."""
    if word in WAYS:
        return ("do", told, WAYS[word])
    if word == "add":
        name, taken, given = told
        return ("add", name, row_of(book, taken, given))
    # Only the numbers of a line are told as a list.
    return (word, tuple([int(digits) for digits in told]) if isinstance(told, list) else told)


def row_of(book, taken, given):
    """The row of a barter with two sides, or None if a part of them is wrong."""
    numbers = {good: j for j, good in enumerate(book.goods())}
    return told_row(numbers, taken, given) if are_parts(numbers, taken + given) else None


def text_or_none(number):
    """A number as an answer, none for None."""
    return "none" if number is None else str(number)


def undo_text(house):
    """The answer to undo."""
    return str(house.undo())


def redo_text(house):
    """The answer to redo."""
    return str(house.redo())


def show_text(house):
    """The answer to show."""
    return ", ".join([f"{many} {good}" for good, many in zip(house.book().goods(), house.stock())])


def due_text(house):
    """The answer to due."""
    return text_or_none(house.due())


def left_text(house):
    """The answer to left."""
    return text_or_none(house.left())


def paid_text(house):
    """The answer to paid."""
    return str(house.paid())


def plan_text(house):
    """The answer to plan."""
    plan = house.plan()
    return "none" if plan is None else ", ".join([str(number) for number in plan])


def square_text(house):
    """The answer to square."""
    square = square_of(house.book())
    return "none" if square is None else " ".join(square[0]) + "; " + " ".join(square[1])


def way_text(house):
    """The answer to way."""
    deeds = house.way()
    if deeds is None:
        return "none"
    words = {1: "forward", -1: "back"}
    return "; ".join([f"{words[way]} {name}" for name, way in deeds])


def nails_text(house):
    """The answer to nails."""
    return ", ".join(house.nails())


def keep_text(house, name):
    """The answer to keep."""
    house.keep(name)
    return str(len(house.marks()))


def has_text(house, name):
    """The answer to has."""
    return str(house.stock()[house.book().good_number(name)])


def to_text(house, name):
    """The answer to to."""
    return str(house.due_to(name))


ALONE = {
    "undo": undo_text, "redo": redo_text, "show": show_text, "due": due_text, "left": left_text, "paid": paid_text,
    "plan": plan_text, "square": square_text, "way": way_text, "nails": nails_text,
}
NAMED = {"keep": keep_text, "has": has_text, "to": to_text}
