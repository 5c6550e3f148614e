"""console.py: [S10.8], and the example of [S10.9] said in lines."""

import random
import unittest

from eitherbarter.books import Book
from eitherbarter.console import Console
from eitherbarter.errors import BarterError, NameMissing
from eitherbarter.house import House
from eitherbarter.squares import judge_square, square_of
from tests.helpers import (
    dependent, drawn_book, drawn_carry, drawn_good_book, in_time, money, plain_is_good, plain_walk, plus, there_and_back,
)
from tests.houses import drawn_act
from tests.test_lexemes import plain_lexemes, plain_wrong_place
from tests.test_stocks import spoiled_texts

NAMED = ("forward", "back", "nail", "free", "drop", "good", "lose", "keep", "has", "to")
ALONE = ("undo", "redo", "show", "due", "left", "paid", "plan", "square", "way", "nails")

# The forms of lines as a table: what may come in a state, and the state behind it; a line may end in 2 and 20.
STATES = {
    0: {
        **{word: 1 for word in NAMED}, **{word: 20 for word in ALONE}, "goal": 2, "bring": 3, "fetch": 3, "add": 7,
    },
    1: {"WORD": 20}, 2: {"(": 4}, 3: {"(": 4}, 4: {")": 20, "NUMBER": 5}, 5: {",": 6, ")": 20}, 6: {"NUMBER": 5},
    7: {"WORD": 8}, 8: {"(": 9}, 9: {"NUMBER": 10}, 10: {"WORD": 11}, 11: {",": 9, ")": 12}, 12: {"to": 13},
    13: {"(": 14}, 14: {"NUMBER": 15}, 15: {"WORD": 16}, 16: {",": 14, ")": 20}, 20: {},
}
ENDS = (2, 20)
LINES = (
    "forward split", "back split", "nail change", "free change", "drop split", "good penny", "lose dime", "keep here",
    "has cent", "to here", "goal", "goal (10, 2, 0)", "goal ()", "bring (1, 20, 300)", "fetch (0, 0, 1)",
    "add swap (3 cent) to (1 dime)", "add to (1 cent, 2 nickel) to (3 dime)", *ALONE,
)


def coined():
    """A console of the house of S10.9."""
    return Console(House(money(), (0, 0, 2)))


def line_of(act):
    """A line that does what is an act by its form."""
    word, one = act[:2]
    if word == "do":
        return f"{'forward' if act[2] == 1 else 'back'} {one}"
    if word in ("goal", "bring", "fetch"):
        return word if one is None else f"{word} ({', '.join(map(str, one))})"
    return f"{word} {one}"


def add_line(book, act):
    """A line that adds a barter with a row, or one that is wrong if the row is."""
    pairs = list(zip(book.goods(), act[2]))
    sides = [[f"{-n} {good}" for good, n in pairs if n < 0], [f"{n} {good}" for good, n in pairs if n > 0]]
    return f"add {act[1]} ({', '.join(sides[0]) or '0 a'}) to ({', '.join(sides[1]) or '0 a'})"


def plain_row(book, side, other):
    """The row of two sides of pairs of a number and a good, or None."""
    row = dict.fromkeys(book.goods(), 0)
    for sign, parts in ((-1, side), (1, other)):
        for number, good in parts:
            if number == 0 or good not in row or row[good]:
                return None
            row[good] = sign * number
    return tuple(row.values())


def plain_sides(lexemes):
    """The two lists of pairs of a number and a good of a line that adds a barter."""
    words = [lexeme for _, lexeme, _ in lexemes]
    cut = words.index(")")
    sides = []
    for part in (words[3:cut], words[cut + 3:-1]):
        part = [lexeme for lexeme in part if lexeme != ","]
        sides.append([(int(number), good) for number, good in zip(part[::2], part[1::2])])
    return sides


def plain_act(book, line):
    """The act that a line of a right form does, or None if it does none."""
    lexemes = plain_lexemes(line)
    words = [lexeme for _, lexeme, _ in lexemes]
    if words[0] in ("forward", "back"):
        return ("do", words[1], 1 if words[0] == "forward" else -1)
    if words[0] == "add":
        return ("add", words[1], plain_row(book, *plain_sides(lexemes)))
    if words == ["goal"]:
        return ("goal", None)
    if words[0] in ("goal", "bring", "fetch"):
        return (words[0], tuple(int(lexeme) for sort, lexeme, _ in lexemes if sort == "number"))
    return tuple(words) if words[0] in ("nail", "free", "drop", "good", "lose") else None


def plain_told(house, words):
    """The answer to a question, or what keep, undo and redo do."""
    book, stock, nails, goal, plan = house.state()
    if words[0] in ("undo", "redo"):
        return str(house.undo() if words[0] == "undo" else house.redo())
    if words[0] == "keep":
        house.keep(words[1])
        return str(len(house.marks()))
    if words[0] == "has":
        return str(stock[book.good_number(words[1])])
    if words[0] == "to":
        return str(house.due_to(words[1]))
    if words[0] == "show":
        return ", ".join(f"{number} {good}" for number, good in zip(stock, book.goods()))
    if words[0] in ("due", "left"):
        number = house.due() if words[0] == "due" else house.left()
        return "none" if number is None else str(number)
    if words[0] == "paid":
        return str(sum(act[0] == "do" for act in house.done()))
    if words[0] == "plan":
        return "none" if goal is None else ", ".join(map(str, plan))
    if words[0] == "nails":
        return ", ".join(nails)
    if words[0] == "square":
        square = square_of(book)
        return "none" if square is None else f"{' '.join(square[0])}; {' '.join(square[1])}"
    deeds = house.way()
    return "none" if deeds is None else "; ".join(f"{'forward' if d == 1 else 'back'} {name}" for name, d in deeds)


def plain_answer(house, line):
    """What a line is answered, done with a house by its own methods."""
    place = plain_wrong_place(line, STATES, ENDS)
    if place is not None:
        return f"no BadText {place}"
    act = plain_act(house.book(), line)
    try:
        if act is not None:
            return str(house.do(act))
        return plain_told(house, [lexeme for _, lexeme, _ in plain_lexemes(line)])
    except (BarterError, NameMissing) as error:
        words = ["no", type(error).__name__] + ([error.word] if hasattr(error, "word") else [])
        return " ".join(words)


class Answers(unittest.TestCase):
    def answers(self, console, *pairs):
        for line, answer in pairs:
            self.assertEqual(console.say(line), answer, line)

    def test_the_example(self):
        console = coined()
        self.answers(
            console, ("show", "0 cent, 0 nickel, 2 dime"), ("goal (10, 2, 0)", "1"), ("plan", "2, 2"), ("due", "4"),
            ("left", "4"), ("square", "none"), ("forward change", "no BadAct deed"), ("forward split", "2"),
            ("plan", "1, 2"), ("add swap (3 cent) to (1 dime)", "3"), ("plan", "1, 2, 0"), ("due", "3"),
            ("left", "none"), ("way", "none"), ("drop change", "no BadAct goal"), ("drop swap", "4"), ("left", "3"),
            ("back split", "5"), ("due", "4"), ("paid", "2"),
        )
        self.assertEqual(console.house().waste(), 2)
        square = coined()
        square.say("add swap (3 cent) to (1 dime)")
        names, goods = square.say("square").split("; ")
        self.assertIs(judge_square(square.house().book(), (tuple(names.split(" ")), tuple(goods.split(" ")))), True)

    def test_every_form(self):
        console = coined()
        self.answers(
            console, ("nails", ""), ("plan", "none"), ("due", "none"), ("left", "none"), ("way", "none"),
            ("paid", "0"), ("undo", "no NothingDone"), ("redo", "no NothingDone"), ("keep begin", "1"),
            ("forward split", "1"), ("back split", "2"), ("paid", "2"), ("undo", "1"), ("undo", "0"), ("redo", "1"),
            ("has nickel", "2"), ("has penny", "no UnknownName"), ("has split", "no UnknownName"),
            ("keep here", "2"), ("keep begin", "2"), ("to begin", "0"), ("to there", "no UnknownName"),
            ("nail change", "2"), ("nail change", "no BadAct barter"), ("nails", "change"), ("nail split", "3"),
            ("nails", "split, change"), ("free split", "4"), ("free split", "no BadAct barter"),
            ("goal (0, 0, 2)", "5"), ("plan", "-1, 0"), ("way", "back split"), ("goal (5, 1, 1)", "no BadAct account"),
            ("goal (1, 2)", "no BadAct stock"), ("goal ()", "no BadAct stock"), ("goal", "6"), ("plan", "none"),
            ("bring (1, 0, 20)", "7"), ("show", "1 cent, 2 nickel, 21 dime"), ("fetch (2, 0, 0)", "no BadAct few"),
            ("fetch (1, 0)", "no BadAct row"), ("fetch (1, 0, 0)", "8"), ("to here", "no NoAccount"),
            ("good penny", "9"), ("good penny", "no BadAct name"), ("to here", "no UnlikeBooks"),
            ("show", "0 cent, 2 nickel, 21 dime, 0 penny"), ("lose penny", "10"), ("lose penny", "no BadAct good"),
            ("lose cent", "no BadAct barter"), ("drop change", "11"), ("nails", ""), ("drop change", "no BadAct barter"),
            ("lose cent", "12"), ("show", "2 nickel, 21 dime"), ("goal (0, 22)", "13"), ("plan", "-1"), ("left", "1"),
        )

    def test_empty_answers(self):
        console = Console(House(Book([], []), ()))
        self.answers(
            console, ("show", ""), ("nails", ""), ("way", "none"), ("goal ()", "1"), ("way", ""), ("plan", ""),
            ("due", "0"), ("left", "0"), ("square", "none"), ("bring ()", "2"), ("goal", "3"), ("plan", "none"),
            ("good a", "4"), ("show", "0 a"), ("goal (0)", "5"), ("plan", ""), ("way", ""),
        )

    def test_a_way_is_one_of_as_many_deeds_as_are_left(self):
        rng = random.Random(381)
        for _ in range(25):
            book, f, _, g = drawn_carry(rng, rng.randint(2, 8), rng.randint(0, 30), 5, 1)
            console = Console(House(book, f))
            console.say(line_of(("goal", g)))
            answer = console.say("way")
            deeds = [part.split(" ") for part in answer.split("; ")] if answer else []
            self.assertEqual(str(len(deeds)), console.say("left"))
            script = [(name, {"forward": 1, "back": -1}[word]) for word, name in deeds]
            self.assertEqual(plain_walk(book, f, script)[-1], g)
            for part in answer.split("; ") if answer else []:
                self.assertNotIn("no", console.say(part).split(" "))
            self.assertEqual((console.say("left"), console.say("way"), console.house().waste()), ("0", "", 0))

    def test_every_error_class(self):
        console = coined()
        seen = {console.say(line).split(" ")[1] for line in ("", "undo", "has x", "forward x")}
        console.say("keep here")
        console.say("bring (1, 0, 0)")
        seen.add(console.say("to here").split(" ")[1])
        console.say("good x")
        seen.add(console.say("to here").split(" ")[1])
        bad = Console(House(there_and_back(), (1, 0)))
        bad.say("keep here")
        self.assertEqual(bad.say("to here"), "no NotGood")
        self.assertEqual(seen, {"BadText", "NothingDone", "UnknownName", "BadAct", "NoAccount", "UnlikeBooks"})

    def test_full(self):
        console = coined()
        for k in range(120):
            self.assertEqual(console.say("goal"), str(k + 1))
        self.answers(
            console, ("goal", "no BadAct full"), ("forward split", "no BadAct full"), ("back split", "no BadAct deed"),
            ("goal (1)", "no BadAct stock"), ("keep here", "1"), ("undo", "119"), ("redo", "120"),
        )

    def test_names_that_are_words_of_the_forms(self):
        console = Console(House(Book(["to", "add", "show"], [("goal", (-1, 1, 0)), ("to", (0, -1, 1))]), (2, 0, 0)))
        self.answers(
            console, ("show", "2 to, 0 add, 0 show"), ("has to", "2"), ("has show", "0"), ("forward goal", "1"),
            ("forward to", "2"), ("nail to", "3"), ("free to", "4"), ("good goal", "5"), ("keep to", "1"),
            ("to to", "0"), ("add add (1 to, 2 add) to (3 show, 4 goal)", "6"), ("add show (1 to) to (1 goal)", "7"),
            ("add forward (1 to) to (1 to)", "no BadAct row"), ("to to", "no UnlikeBooks"), ("nails", ""),
            ("square", "add show; to goal"), ("drop add", "8"), ("drop show", "9"), ("to to", "0"), ("lose goal", "10"),
            ("goal (1, 1, 0)", "11"), ("plan", "0, -1"), ("way", "back to"), ("goal goal", "no BadText 5"),
        )
        self.assertEqual(console.house().book().names(), ["goal", "to"])

    def test_parts_that_make_the_row_none(self):
        console = coined()
        for line in (
            "add a (0 cent) to (1 dime)", "add a (1 cent) to (0 dime)", "add a (1 penny) to (1 dime)",
            "add a (1 cent) to (1 split)", "add a (1 cent, 1 cent) to (1 dime)", "add a (1 cent) to (1 cent)",
            "add a (1 cent, 2 dime) to (1 nickel, 2 dime)", "add a (1 dime) to (1 nickel, 2 nickel)",
        ):
            self.assertEqual(console.say(line), "no BadAct row", line)
            self.assertEqual(console.say(line.replace("add a", "add split")), "no BadAct name")
        self.assertEqual(console.say("add a (2 dime, 1 cent) to (7 nickel)"), "1")
        self.assertEqual(console.house().book().row("a"), (-1, 7, -2))

    def test_great_numbers(self):
        console = Console(House(Book(["a", "b"], []), (10 ** 39, 0)))
        self.assertEqual(console.say("show"), f"{10 ** 39} a, 0 b")
        self.assertEqual(console.say(f"fetch ({10 ** 39 - 1}, 0)"), "1")
        self.assertEqual(console.say("has a"), "1")
        self.assertEqual(console.say(f"add p ({10 ** 40 - 1} a) to (1 b)"), "2")

    def test_two_consoles_of_one_house(self):
        house = House(money(), (0, 0, 2))
        one, other = Console(house), Console(house)
        self.assertIs(one.house(), house)
        self.assertIs(other.house(), house)
        self.answers(one, ("forward split", "1"))
        self.answers(other, ("has nickel", "2"), ("undo", "0"))
        self.answers(one, ("has nickel", "0"), ("redo", "1"), ("keep a", "1"))
        house.do(("good", "penny"))
        self.answers(other, ("keep b", "2"), ("undo", "1"))
        self.assertEqual(house.undone(), [("good", "penny")])


class WrongPlaces(unittest.TestCase):
    def check(self, line):
        """Where a line is wrong, that it is refused there, and that nothing changes; returns the place or None."""
        place = plain_wrong_place(line, STATES, ENDS)
        if place is not None:
            console = coined()
            console.say("forward split")
            console.say("keep here")
            console.say("undo")
            before = console.house().twin()
            self.assertEqual(console.say(line), f"no BadText {place}", line)
            self.assertTrue(console.house() == before)
        return place

    def test_told_places(self):
        for line, place in (
            ("", 0), (" ", 1), ("\n\n ", 3), ("sho", 0), ("Show", 0), ("7", 0), ("(", 0), ("show show", 5),
            ("show [", 5), ("show\t", 4), ("undo 7", 5), ("forward", 7), ("forward ", 8), ("forward 7", 8),
            ("forward split;", 13), ("forward split 1", 14), ("forward abcdefghijklm", 8), ("goal x", 5), ("goal (", 6),
            ("goal (1", 7), ("goal (1,", 8), ("goal (1,)", 8), ("goal (01)", 7), ("goal (a)", 6), ("goal (-1)", 6),
            ("goal (1) 1", 9), ("goal ) (", 5), ("goal 7", 5), ("bring", 5), ("bring x", 6), ("bring (,1)", 7),
            ("fetch (1 2)", 9), ("add", 3), ("add (", 4), ("add a", 5), ("add a ()", 7), ("add a (b", 7),
            ("add a (1 b", 10), ("add a (1 b,)", 11), ("add a (1 b) to", 14), ("add a (1 b) too (1 c)", 12),
            ("add a (1 b) to ()", 16), ("add a (1 b) to (1 c);", 20), ("add to to (1 b)", 7), ("way (", 4),
            ("has", 3), ("has (", 4), ("has 1", 4), ("to", 2), ("to to to", 6), ("goal forward", 5), ("{", 0),
        ):
            self.assertEqual(self.check(line), place, line)
            self.assertEqual(self.check("  \n" + line), place + 3, line)

    def test_lines_that_are_right(self):
        for line in LINES:
            self.assertIsNone(self.check(line), line)
            self.assertFalse(coined().say(line).startswith("no BadText"), line)

    def test_spoiled_lines(self):
        wrong = 0
        for line in LINES:
            for text in spoiled_texts(line):
                place = self.check(text)
                wrong += place is not None
                if place is None:
                    self.assertFalse(coined().say(text).startswith("no BadText"), text)
                    self.assertEqual(coined().say(text), plain_answer(House(money(), (0, 0, 2)), text), text)
        self.assertGreater(wrong, 2000)

    def test_blanks_and_line_feeds_between_lexemes(self):
        for line in LINES:
            lexemes = [lexeme for _, lexeme, _ in plain_lexemes(line)]
            expected = coined().say(line)
            for between in (" ", "\n", "  \n "):
                for text in (between.join(lexemes), between + between.join(lexemes) + between):
                    self.assertEqual(coined().say(text), expected, text)
            if "(" in line:
                self.assertEqual(coined().say(line.replace("(", "(\n").replace(", ", ",").replace(") ", ")")), expected)

    def test_long_lines(self):
        console = Console(House(Book(["a"], []), (0,)))
        self.assertEqual(in_time(console.say, " " * 19990 + "show"), "0 a")
        self.assertEqual(in_time(console.say, "goal (" + "1," * 9000), "no BadText 18006")
        self.assertEqual(in_time(console.say, "goal (" + "1," * 9000 + "1)"), "no BadAct stock")
        self.assertEqual(in_time(console.say, "a" * 20000), "no BadText 0")
        self.assertEqual(
            in_time(console.say, "add x (" + ", ".join(["1 a"] * 3000) + ") to (1 a)"), "no BadAct row",
        )


class Histories(unittest.TestCase):
    def test_drawn_lines_against_the_methods_of_a_house(self):
        rng = random.Random(382)
        for _ in range(40):
            book = drawn_book(rng, 3, 3, 0.7, 2) if rng.random() < 0.3 else drawn_good_book(rng, 4, 0.8, 2)[0]
            stock = tuple(rng.randint(0, 4) for _ in book.goods())
            console, house = Console(House(book, stock)), House(book, stock)
            for _ in range(40):
                act = drawn_act(rng, house.state())
                line = add_line(house.book(), act) if act[0] == "add" else line_of(act)
                if rng.random() < 0.4:
                    line = rng.choice(ALONE + ("keep a", "keep b", "to a", "to b", "has g0", "has n0"))
                if rng.random() < 0.1:
                    line = line[:rng.randint(0, len(line))]
                before = console.house().twin()
                answer = console.say(line)
                self.assertEqual(answer, plain_answer(house, line), line)
                self.assertTrue(console.house() == house, line)
                if answer.startswith("no "):
                    self.assertTrue(console.house() == before)

    def test_squares_in_answers(self):
        rng = random.Random(383)
        for _ in range(30):
            book = drawn_book(rng, 4, 4, 0.5, 2)
            console = Console(House(book, (0,) * 4))
            answer = console.say("square")
            if plain_is_good(book):
                self.assertEqual(answer, "none")
            else:
                names, goods = [tuple(part.split(" ")) for part in answer.split("; ")]
                self.assertIs(judge_square(book, (names, goods)), True)

    def test_plans_with_numbers_below_0(self):
        console = Console(House(dependent(), (100, 200)))
        row = plus((100, 200), (4, -6), 5)
        self.assertEqual(console.say(f"goal ({row[0]}, {row[1]})"), "1")
        self.assertEqual(console.say("plan"), ", ".join(map(str, console.house().plan())))
        self.assertEqual(console.say("left"), "none")
        console = coined()
        console.say("goal (5, 1, 1)")
        console.say("forward split")
        console.say("forward split")
        self.assertEqual(console.say("plan"), "-1, 1")


if __name__ == "__main__":
    unittest.main()
