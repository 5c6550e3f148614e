"""chains.py: [S2.1] to [S2.3]."""

import random
import unittest

from eitherbarter.books import Book, turned_book
from eitherbarter.chains import chain_between, judge_chain, judge_round, linking, links_of, round_of
from eitherbarter.errors import UnknownName
from tests.helpers import (
    anything, coins, drawn_book, drawn_books, drawn_good_book, letters, plain_chains, plain_is_good, plain_links,
    plain_rounds, ring,
)


def plain_is_way(book, goods, names):
    """Whether the names are different, and each links the good at its place and the next one."""
    links = plain_links(book)
    return len(set(names)) == len(names) and all(
        (name, goods[k], goods[k + 1]) in links for k, name in enumerate(names)
    )


def plain_is_chain(book, value):
    """Whether a tuple of words is a chain."""
    goods, names = value[::2], value[1::2]
    return (
        len(goods) == len(names) + 1 and set(goods) <= set(book.goods()) and len(set(goods)) == len(goods)
        and plain_is_way(book, goods, names)
    )


def plain_is_round(book, value):
    """Whether a tuple of words is a round."""
    goods, names = value[::2], value[1::2]
    return (
        len(goods) == len(names) >= 2 and set(goods) <= set(book.goods()) and len(set(goods)) == len(goods)
        and plain_is_way(book, goods + goods[:1], names)
    )


def plain_reached(book, one):
    """All goods to which a chain leads from a good, by pairs of a good and the barters that are used."""
    links = plain_links(book)
    pairs = [(one, frozenset())]
    seen = set(pairs)
    for good, used in pairs:
        for name, near, far in links:
            pair = (far, used | {name})
            if near == good and name not in used and pair not in seen:
                seen.add(pair)
                pairs.append(pair)
    return {good for good, _ in pairs}


def spoiled(rng, book, value):
    """A tuple with one or two members changed, put in, left out or exchanged."""
    out = list(value)
    words = [*book.goods(), *book.names(), "nothing", None, 0]
    for _ in range(rng.randint(1, 2)):
        k = rng.randrange(len(out) + 1)
        out[k:k + rng.choice([0, 1, 1, 2])] = rng.choices(words, k=rng.choice([0, 1, 1, 2]))
        if len(out) > 1 and rng.random() < 0.3:
            j, k = rng.randrange(len(out)), rng.randrange(len(out))
            out[j], out[k] = out[k], out[j]
    return tuple(out)


class Links(unittest.TestCase):
    def test_the_book_of_the_document(self):
        self.assertEqual(links_of(letters()), [("p", "b", "a"), ("q", "d", "b"), ("q", "d", "c"), ("r", "c", "e")])
        self.assertEqual(
            links_of(coins()), [("change", "note", "coin"), ("pack", "bag", "coin"), ("pack", "bag", "note")],
        )

    def test_the_order(self):
        book = Book(["a", "b", "c", "d"], [("q", (1, -1, 1, -1)), ("p", (-1, 1, 0, 0))])
        self.assertEqual(links_of(book), [
            ("q", "a", "b"), ("q", "a", "d"), ("q", "c", "b"), ("q", "c", "d"), ("p", "b", "a"),
        ])

    def test_books_without_links(self):
        self.assertEqual(links_of(Book([], [])), [])
        self.assertEqual(links_of(Book(["a", "b"], [])), [])

    def test_a_barter_turned_about(self):
        self.assertEqual(links_of(turned_book(coins(), ["change"]))[0], ("change", "coin", "note"))

    def test_drawn_books(self):
        for book in drawn_books(51, 60):
            expected = [
                (name, given, taken) for name, row in book.barters()
                for given, n in zip(book.goods(), row) if n > 0
                for taken, m in zip(book.goods(), row) if m < 0
            ]
            self.assertEqual(links_of(book), expected)

    def test_linking(self):
        book = Book(["a", "b", "c"], [("p", (1, -1, 0)), ("q", (-2, 3, -1)), ("r", (1, 1, -1))])
        self.assertEqual(linking(book, "a", "b"), ["p", "q"])
        self.assertEqual(linking(book, "b", "a"), ["p", "q"])
        self.assertEqual(linking(book, "a", "c"), ["r"])
        self.assertEqual(linking(book, "c", "b"), ["q", "r"])
        self.assertEqual(linking(letters(), "a", "c"), [])
        for good in "abc":
            self.assertEqual(linking(book, good, good), [])

    def test_linking_in_drawn_books(self):
        for book in drawn_books(52, 40):
            links = plain_links(book)
            for one in book.goods():
                for other in book.goods():
                    expected = [name for name in book.names() if (name, one, other) in links]
                    self.assertEqual(linking(book, one, other), expected)

    def test_unknown_goods(self):
        for function in (linking, chain_between):
            for value in [*anything(), "p"]:
                for one, other in ((value, "a"), ("a", value), (value, "nothing")):
                    with self.assertRaises(UnknownName) as caught:
                        function(letters(), one, other)
                    self.assertIs(caught.exception.name, value)
            with self.assertRaises(UnknownName) as caught:
                function(letters(), "one", "other")
            self.assertEqual(caught.exception.name, "one")


class Chains(unittest.TestCase):
    def test_the_book_of_the_document(self):
        book = letters()
        self.assertEqual(chain_between(book, "a", "d"), ("a", "p", "b", "q", "d"))
        self.assertEqual(chain_between(book, "d", "a"), ("d", "q", "b", "p", "a"))
        self.assertEqual(chain_between(book, "e", "d"), ("e", "r", "c", "q", "d"))
        for one, other in ("ac", "ae", "bc", "be"):
            self.assertIsNone(chain_between(book, one, other))
            self.assertIsNone(chain_between(book, other, one))

    def test_from_a_good_to_itself(self):
        for good in "abcde":
            self.assertEqual(chain_between(letters(), good, good), (good,))
            self.assertIs(judge_chain(letters(), (good,)), True)
        lone = Book(["a", "b", "x"], [("p", (-1, 1, 0)), ("q", (1, -1, 0))])
        self.assertEqual(chain_between(lone, "x", "x"), ("x",))
        self.assertIs(judge_chain(lone, ("x",)), True)
        self.assertIs(judge_chain(lone, ("a", "p", "b", "q", "a")), False)
        self.assertIsNone(chain_between(lone, "x", "a"))

    def test_judged(self):
        book = letters()
        for value in (("a", "p", "b", "q", "d"), ("d", "q", "b", "p", "a"), ("a", "p", "b"), ("e", "r", "c", "q", "d")):
            self.assertIs(judge_chain(book, value), True, value)
        for value in (
            ("a", "p", "b", "q", "d", "q", "c"), ("a", "p", "b", "q", "c"), ("a", "q", "b"), ("a", "p", "a"),
            ["a", "p", "b"], ("a", "p"), ("a", "p", "b", "q"), (), ("p",), ("a", "b", "p"), ("a", "p", "d"),
            ("p", "a", "b"), ("a", "a", "b"), ("a", ("p",), "b"), ("a", "p", ["b"]), ("a", "p", None), (("a",),),
            ("a", "p", "b", "p", "a"), ("nothing",), "a", ("a", True, "b"), ("a", 0, "b"),
        ):
            self.assertIs(judge_chain(book, value), False, value)

    def test_a_good_and_a_name_may_be_the_same_word(self):
        book = Book(["p", "q", "r"], [("q", (-1, 1, 0)), ("p", (0, -1, 1))])
        self.assertEqual(chain_between(book, "p", "r"), ("p", "q", "q", "p", "r"))
        self.assertIs(judge_chain(book, ("p", "q", "q", "p", "r")), True)
        self.assertIs(judge_chain(book, ("p", "p", "q", "q", "r")), False)

    def test_values_of_all_kinds(self):
        for value in anything():
            for book in (letters(), Book([], [])):
                self.assertIs(judge_chain(book, value), False)
                self.assertIs(judge_chain(book, (value,)), False)
                self.assertIs(judge_chain(book, ("a", value, "b")), False)
                self.assertIs(judge_chain(book, ("a", "p", value)), False)

    def test_held_against_a_plain_search(self):
        for book in drawn_books(53, 80, 5, 5):
            for one in book.goods():
                chains = set(plain_chains(book, one))
                for other in book.goods():
                    found = chain_between(book, one, other)
                    if found is None:
                        self.assertFalse([chain for chain in chains if chain[-1] == other])
                    else:
                        self.assertIn(found, chains)
                        self.assertEqual(found[-1], other)

    def test_what_is_judged_held_against_a_plain_search(self):
        rng = random.Random(54)
        for book in drawn_books(55, 60, 5, 5):
            for one in book.goods()[:2]:
                chains = plain_chains(book, one)
                for chain in rng.sample(chains, min(20, len(chains))):
                    self.assertIs(judge_chain(book, chain), True)
                    self.assertIs(judge_chain(book, chain[::-1]), True)
                    self.assertIs(judge_chain(book, list(chain)), False)
                    value = spoiled(rng, book, chain)
                    self.assertIs(judge_chain(book, value), plain_is_chain(book, value), value)

    def test_books_at_the_limits(self):
        rng = random.Random(56)
        books = [drawn_book(rng, 10, 12, share) for share in (0.2, 0.25, 0.3, 0.5)]
        books += [drawn_good_book(rng, 10, 1.0)[0] for _ in range(6)]
        for book in books:
            for one in rng.sample(book.goods(), 2):
                reached = plain_reached(book, one)
                for other in book.goods():
                    found = chain_between(book, one, other)
                    self.assertIs(found is not None, other in reached)
                    if found is not None:
                        self.assertTrue(plain_is_chain(book, found))
                        self.assertEqual((found[0], found[-1]), (one, other))
                        self.assertIs(judge_chain(book, found), True)

    def test_a_barter_that_was_used_early_is_not_used_again(self):
        # From a to b by p or by q, but only q is left to go on if p went there.
        book = Book(["a", "b", "c"], [("p", (-1, 1, -1)), ("q", (-1, 1, 0))])
        self.assertEqual(chain_between(book, "a", "c"), ("a", "q", "b", "p", "c"))


class Rounds(unittest.TestCase):
    def test_rounds_of_two(self):
        book = Book(["a", "b"], [("p", (-1, 1)), ("q", (-3, 2))])
        for value in (("a", "p", "b", "q"), ("a", "q", "b", "p"), ("b", "p", "a", "q"), ("b", "q", "a", "p")):
            self.assertIs(judge_round(book, value), True)
        self.assertIn(round_of(book), plain_rounds(book))

    def test_longer_rounds(self):
        for many in range(2, 11):
            book = ring(many)
            told = round_of(book)
            self.assertTrue(plain_is_round(book, told))
            self.assertEqual(len(told), 2 * many)
            for k in range(0, 2 * many, 2):
                turned = told[k:] + told[:k]
                self.assertIs(judge_round(book, turned), True)
                self.assertIs(judge_round(book, turned[:1] + turned[:0:-1]), True)

    def test_barters_beside_a_round(self):
        for many in range(3, 8):
            rows = [row for _, row in ring(many).barters()]
            more = [tuple([1] + [-1] * (many - 1)), tuple([-1] * (many - 1) + [1]), (1, 1) + (-1,) * (many - 2)]
            for row in more:
                for order in ([row, *rows], [*rows, row], [*more, *rows]):
                    book = Book(ring(many).goods(), [(f"m{k}", told) for k, told in enumerate(order)])
                    self.assertTrue(plain_is_round(book, round_of(book)))

    def test_none(self):
        for book in (letters(), coins(), Book([], []), Book(["a"], []), Book(["a", "b"], [])):
            self.assertIsNone(round_of(book))
            self.assertEqual(plain_rounds(book), set())

    def test_judged(self):
        book = Book(["a", "b", "c", "d"], [("p", (-1, 1, 0, 0)), ("q", (0, -1, 1, 0)), ("r", (1, 0, -1, 0)),
                                           ("s", (0, 0, -1, 1))])
        self.assertIs(judge_round(book, ("a", "p", "b", "q", "c", "r")), True)
        for value in (
            ["a", "p", "b", "q", "c", "r"], ("a", "p", "b", "q", "c"), ("a", "p", "b", "q", "c", "s"),
            ("a", "p", "b", "q", "c", "r", "a"), ("a", "p", "b", "p"), ("a", "p", "a", "p"), (), ("a", "p"), ("a",),
            ("a", "p", "b", "q"), ("p", "a", "q", "b", "r", "c"), ("a", "p", "b", "q", "d", "r"),
            ("a", "b", "b", "q", "c", "r"), ("a", "p", "b", "q", "c", None), ("a", "p", ("b",), "q", "c", "r"),
            ("a", "p", "b", "q", "c", "p"), ("a", "r", "c", "q", "b", "nothing"),
            ("c", "s", "d", "s"), ("a", "p", "b", "q", "c", "q", "b", "r"),
        ):
            self.assertIs(judge_round(book, value), False, value)

    def test_values_of_all_kinds(self):
        for value in anything():
            for book in (ring(2), Book([], [])):
                self.assertIs(judge_round(book, value), False)
                self.assertIs(judge_round(book, ("g0", value, "g1", "n1")), False)
                self.assertIs(judge_round(book, ("g0", "n0", value, "n1")), False)
                self.assertIs(judge_round(book, (value, value, value, value)), False)

    def test_held_against_a_plain_search(self):
        rng = random.Random(57)
        for book in drawn_books(58, 100, 5, 5):
            rounds = plain_rounds(book)
            found = round_of(book)
            if found is None:
                self.assertFalse(rounds)
            else:
                self.assertIn(found, rounds)
            ordered = sorted(rounds)
            for value in rng.sample(ordered, min(10, len(ordered))):
                self.assertIs(judge_round(book, value), True)
                self.assertIs(judge_round(book, value[:1] + value[:0:-1]), True)
                near = spoiled(rng, book, value)
                self.assertIs(judge_round(book, near), plain_is_round(book, near), near)

    def test_books_at_the_limits(self):
        rng = random.Random(59)
        books = [drawn_book(rng, 10, 12, share) for share in (0.2, 0.25, 0.3, 0.6, 1.0)]
        books += [drawn_book(rng, 10, 5, 0.2) for _ in range(20)]
        books += [drawn_good_book(rng, 10, 1.0)[0] for _ in range(5)]
        for book in books:
            found = round_of(book)
            self.assertIs(found is None, plain_is_good(book))
            if found is not None:
                self.assertTrue(plain_is_round(book, found))
                self.assertIs(judge_round(book, found), True)

    def test_a_book_turned_about_has_the_same_chains_and_rounds(self):
        rng = random.Random(60)
        for book in drawn_books(61, 30, 4, 4):
            turned = turned_book(book, rng.sample(book.names(), rng.randint(0, len(book.names()))))
            self.assertIs(round_of(turned) is None, round_of(book) is None)
            for one in book.goods():
                for chain in plain_chains(book, one):
                    self.assertIs(judge_chain(turned, chain), True)
            for value in plain_rounds(book):
                self.assertIs(judge_round(turned, value), True)


if __name__ == "__main__":
    unittest.main()
