"""acts.py: [S10.1] to [S10.3], the good acts of [S10.6], and the acts in [S10.9]."""

import random
import unittest

from eitherbarter.acts import act_word, is_good_act, state_after
from eitherbarter.books import Book
from eitherbarter.errors import BadAct
from tests.helpers import (
    anything, dependent, drawn_book, drawn_good_book, in_time, money, nested, plain_balance, plain_is_good, plus,
    raised, there_and_back, three,
)
from tests.houses import SIZES, begun, drawn_act, plain_act_word, plain_state_after


def with_goal():
    """The state of S10.9 with its goal."""
    return (money(), (0, 0, 2), (), (10, 2, 0), (2, 2))


def nailed():
    """A state with a goal and a nailed barter."""
    return (money(), (0, 2, 0), ("split",), (5, 1, 0), (0, 1))


def full_state():
    """A state with ten goods and twelve barters, one of them nailed, one asked for and one neither."""
    row = (-1, 1) + (0,) * 8
    return (
        Book([f"g{j}" for j in range(10)], [(f"n{k}", row) for k in range(12)]), (1,) + (0,) * 9, ("n0",),
        (0, 1) + (0,) * 8, (0, 1) + (0,) * 10,
    )


class Acts(unittest.TestCase):
    def check(self, state, act):
        """The word or the state behind an act, held against a plain look; returns the word."""
        word = act_word(state, act)
        self.assertEqual(word, plain_act_word(state, act), (state[1:], act))
        before = (state[0].goods(), state[0].barters(), state[1:])
        if word is not None:
            self.assertEqual(raised(state_after, state, act), (BadAct, word))
            self.assertIs(is_good_act(state, act), False)
        else:
            behind = state_after(state, act)
            self.assertIs(type(behind), tuple)
            self.assertEqual(behind, plain_state_after(state, act), (state[1:], act))
            self.assertIs(is_good_act(state, act), plain_is_good(behind[0]))
            if behind[3] is not None:
                self.assertEqual(plus(behind[1], plain_balance(behind[0], behind[4])), behind[3])
                told = dict(zip(behind[0].names(), behind[4]))
                self.assertTrue(all(told[name] == 0 for name in behind[2]))
        self.assertEqual((state[0].goods(), state[0].barters(), state[1:]), before)
        return word

    def test_the_example(self):
        state = begun(money(), (0, 0, 2))
        self.assertIsNone(self.check(state, ("goal", (10, 2, 0))))
        state = state_after(state, ("goal", (10, 2, 0)))
        self.assertEqual(state, with_goal())
        state = state_after(state, ("do", "split", 1))
        self.assertEqual(state[1:], ((0, 2, 1), (), (10, 2, 0), (1, 2)))
        self.assertIs(is_good_act(state, ("add", "swap", (-3, 0, 1))), False)
        state = state_after(state, ("add", "swap", (-3, 0, 1)))
        self.assertEqual(state[4], (1, 2, 0))
        self.assertEqual(act_word(state, ("drop", "change")), "goal")
        self.assertIs(is_good_act(state, ("drop", "swap")), True)
        self.assertEqual(state_after(state, ("drop", "swap"))[4], (1, 2))
        # What the plan did not ask for makes its number greater by 1.
        state = state_after(state, ("drop", "swap"))
        self.assertEqual(state_after(state, ("do", "split", -1)), with_goal())

    def test_each_sort_with_a_goal_and_without(self):
        for state in (with_goal(), begun(money(), (0, 2, 1)), nailed(), (money(), (5, 3, 2), ("change",), None, None)):
            for act in (
                ("do", "split", 1), ("do", "split", -1), ("do", "change", 1), ("do", "change", -1), ("nail", "split"),
                ("nail", "change"), ("free", "split"), ("free", "change"), ("goal", None), ("goal", (5, 1, 0)),
                ("goal", (10, 2, 0)), ("goal", state[1]), ("goal", (1, 1, 1)), ("bring", (1, 2, 3)),
                ("bring", (0, 0, 0)), ("fetch", (0, 0, 1)), ("fetch", (0, 1, 0)), ("fetch", (0, 0, 0)),
                ("add", "swap", (-3, 0, 1)), ("add", "cent", (1, 0, -1)), ("add", "split", (1, 0, -1)),
                ("drop", "split"), ("drop", "change"), ("good", "penny"), ("good", "split"), ("lose", "cent"),
                ("lose", "dime"),
            ):
                self.check(state, act)

    def test_deeds_change_the_plan(self):
        self.assertEqual(state_after(with_goal(), ("do", "split", 1))[1:], ((0, 2, 1), (), (10, 2, 0), (1, 2)))
        state = (money(), (0, 2, 1), (), (10, 2, 0), (1, 2))
        self.assertEqual(state_after(state, ("do", "split", -1))[1:], ((0, 0, 2), (), (10, 2, 0), (2, 2)))
        state = (money(), (10, 2, 0), (), (0, 0, 2), (-2, -2))
        self.assertEqual(state_after(state, ("do", "change", -1))[4], (-2, -1))
        self.assertEqual(state_after(state, ("do", "change", 1))[4], (-2, -3))
        self.assertEqual(state_after((money(), (5, 0, 0), (), (5, 0, 0), (0, 0)), ("do", "change", -1))[4], (0, 1))

    def test_goals_with_nailed_barters(self):
        state = (dependent(), (4, 0), ("s", "t"), None, None)
        self.assertEqual(state_after(state, ("goal", (0, 6)))[3:], ((0, 6), (1, 0, 0)))
        self.assertEqual(state_after(begun(dependent(), (2, 0)), ("goal", (0, 3)))[4], (0, 2, 1))
        self.assertEqual(act_word((dependent(), (2, 0), ("s",), None, None), ("goal", (0, 3))), None)
        self.assertEqual(act_word((dependent(), (2, 0), ("s", "t"), None, None), ("goal", (0, 3))), "account")
        # Another goal makes a new plan, none makes it None; no other act makes a new one.
        self.assertEqual(state_after(with_goal(), ("goal", (5, 3, 0)))[3:], ((5, 3, 0), (2, 1)))
        self.assertEqual(state_after(with_goal(), ("goal", None))[3:], (None, None))
        state = (dependent(), (2, 9), (), (0, 12), (0, 2, 1))
        self.assertEqual(state_after(state, ("nail", "r"))[3:], ((0, 12), (0, 2, 1)))

    def test_nails_have_the_order_of_the_book(self):
        state = begun(dependent(), (0, 0))
        for name in ("t", "r", "s"):
            self.assertIsNone(self.check(state, ("nail", name)))
            state = state_after(state, ("nail", name))
        self.assertEqual(state[2], ("r", "s", "t"))
        state = state_after(state, ("drop", "s"))
        self.assertEqual((state[2], state[0].names()), (("r", "t"), ["r", "t"]))
        state = state_after(state, ("free", "r"))
        self.assertEqual(state[2], ("t",))

    def test_goods_come_and_go(self):
        state = state_after(with_goal(), ("good", "penny"))
        self.assertEqual(state[0], Book(
            ["cent", "nickel", "dime", "penny"], [("split", (0, 2, -1, 0)), ("change", (5, -1, 0, 0))],
        ))
        self.assertEqual(state[1:], ((0, 0, 2, 0), (), (10, 2, 0, 0), (2, 2)))
        state = state_after(state, ("bring", (0, 0, 0, 7)))
        self.assertEqual(state[1:], ((0, 0, 2, 7), (), (10, 2, 0, 7), (2, 2)))
        state = state_after(state, ("lose", "penny"))
        self.assertEqual(state, with_goal())
        empty = begun(Book([], []), ())
        self.assertEqual(state_after(empty, ("good", "a")), begun(Book(["a"], []), (0,)))
        self.assertEqual(state_after(begun(Book(["a"], []), (5,)), ("lose", "a")), empty)
        self.assertEqual(state_after(empty, ("goal", ()))[3:], ((), ()))
        self.assertEqual(state_after(empty, ("bring", ())), empty)

    def test_drawn_histories(self):
        rng = random.Random(361)
        done = {word: 0 for word in SIZES}
        words = {}
        for _ in range(120):
            book = drawn_book(rng, 4, 3, 0.5, 2) if rng.random() < 0.4 else drawn_good_book(rng, 4, 0.8, 2)[0]
            state = begun(book, tuple(rng.randint(0, 4) for _ in book.goods()))
            for _ in range(25):
                act = drawn_act(rng, state)
                word = self.check(state, act)
                words[(act[0], word)] = words.get((act[0], word), 0) + 1
                if word is None:
                    done[act[0]] += 1
                    state = state_after(state, act)
        self.assertGreater(min(done.values()), 30, done)
        for pair in (
            ("do", "deed"), ("do", "nail"), ("nail", "barter"), ("nail", "goal"), ("free", "barter"),
            ("goal", "account"), ("fetch", "few"), ("fetch", "goal"), ("add", "name"), ("add", "row"),
            ("drop", "goal"), ("good", "name"), ("lose", "barter"),
        ):
            self.assertGreater(words.get(pair, 0), 0, pair)


class Words(unittest.TestCase):
    def word(self, state, act, word):
        self.assertEqual(act_word(state, act), word, act)
        self.assertEqual(plain_act_word(state, act), word, act)
        self.assertEqual(raised(state_after, state, act), (BadAct, word), act)
        self.assertIs(is_good_act(state, act), False)

    def test_form(self):
        for state in (with_goal(), begun(Book([], []), ())):
            for value in [*anything(), nested(40, "do")]:
                for act in (
                    value, (value,), (value, "split"), (value, "split", 1), ("do", value), ("do", "split", 1, value),
                    ("nail", "split", value), ("goal", value, value), ("add", value), ("add", "a", (1, -1, 0), value),
                    [("do", "split", 1)], ["do", "split", 1], ("DO", "split", 1), ("done", "split", 1),
                ):
                    self.word(state, act, "form")
            for word, size in SIZES.items():
                for many in range(1, 6):
                    if many != size:
                        self.word(state, (word,) + (None,) * (many - 1), "form")
                self.word(state, [word] + [None] * (size - 1), "form")

    def test_deeds(self):
        for value in anything():
            self.word(with_goal(), ("do", value, 1), "deed")
            self.word(with_goal(), ("do", value, value), "deed")
            if value != 1 or value is True:
                self.word(with_goal(), ("do", "split", value), "deed")
        for name, way in (("split", -1), ("change", 1), ("cent", 1), ("swap", 1), ("split", 2), ("split", 0)):
            self.word(with_goal(), ("do", name, way), "deed")
        state = (money(), (0, 0, 2), ("split",), None, None)
        self.word(state, ("do", "split", 1), "nail")
        # That the deed cannot be done comes ahead of that the barter is nailed.
        self.word(state, ("do", "split", -1), "deed")
        self.word(state, ("do", "split", True), "deed")

    def test_nails(self):
        for value in [*anything(), "cent", ("split",), ["split"]]:
            for state in (with_goal(), nailed()):
                for word in ("nail", "free"):
                    self.word(state, (word, value), "barter")
        self.word(nailed(), ("nail", "split"), "barter")
        self.word(with_goal(), ("nail", "split"), "goal")
        self.word(with_goal(), ("free", "split"), "barter")
        self.assertIsNone(act_word(begun(money(), (0, 0, 2)), ("nail", "split")))
        self.assertIsNone(act_word((money(), (0, 0, 2), (), (0, 0, 2), (0, 0)), ("nail", "split")))

    def test_goals(self):
        for value in [*anything(), (1, 2), (1, 2, 3, 4), [10, 2, 0], (10, 2, -1), (10, True, 0), (10, None, 0)]:
            if value is not None:
                self.word(with_goal(), ("goal", value), "stock")
                self.word(nailed(), ("goal", value), "stock")
        self.word(with_goal(), ("goal", (1, 0, 2)), "account")
        self.word(nailed(), ("goal", (0, 0, 1)), "account")
        self.assertIsNone(act_word((money(), (0, 2, 0), (), None, None), ("goal", (0, 0, 1))))

    def test_what_is_brought_and_fetched(self):
        for value in [*anything(), (1, 2), (1, 2, 3, 4), [1, 1, 1], (1, -1, 0), (1, True, 0)]:
            for word in ("bring", "fetch"):
                self.word(with_goal(), (word, value), "row")
        self.word(with_goal(), ("fetch", (0, 0, 3)), "few")
        self.word(with_goal(), ("fetch", (1, 0, 0)), "few")
        self.word(with_goal(), ("fetch", (0, 0, 1)), "goal")
        self.word((money(), (0, 3, 0), (), (5, 2, 0), (0, 1)), ("fetch", (0, 3, 0)), "goal")
        self.assertIsNone(act_word((money(), (0, 3, 0), (), (5, 2, 0), (0, 1)), ("fetch", (0, 2, 0))))
        # The stock has less of one good, and the goal of another one.
        self.word(with_goal(), ("fetch", (1, 0, 1)), "few")
        self.assertIsNone(act_word(begun(money(), (0, 0, 2)), ("fetch", (0, 0, 2))))
        self.assertIsNone(act_word((money(), (1, 0, 2), (), (1, 4, 0), (2, 0)), ("fetch", (1, 0, 0))))

    def test_new_barters(self):
        row = (1, 0, -1)
        for value in anything():
            if value != "unknown":
                self.word(with_goal(), ("add", value, row), "name")
                self.word(with_goal(), ("add", value, value), "name")
            self.word(with_goal(), ("add", "swap", value), "row")
            self.word(with_goal(), ("add", "swap", (1, value, -1) if type(value) is not int else (1, 0)), "row")
        for name in ("split", "change", "A", "", "abcdefghijklm"):
            self.word(with_goal(), ("add", name, row), "name")
        for wrong in ((1, 0, 0), (0, 0, 0), (-1, -1, 0), (1, -1), (1, -1, 0, 0), [1, 0, -1], (1, True, -1)):
            self.word(with_goal(), ("add", "swap", wrong), "row")
        self.word(begun(Book([], []), ()), ("add", "swap", ()), "row")

    def test_barters_that_leave(self):
        for value in [*anything(), "cent", "swap", ["split"]]:
            self.word(with_goal(), ("drop", value), "barter")
        self.word(with_goal(), ("drop", "split"), "goal")
        self.assertIsNone(act_word(nailed(), ("drop", "split")))
        self.assertIsNone(act_word(begun(money(), (0, 0, 2)), ("drop", "split")))

    def test_goods(self):
        for value in anything():
            if value != "unknown":
                self.word(with_goal(), ("good", value), "name")
            self.word(with_goal(), ("lose", value), "good")
        for name in ("cent", "dime", "A", ""):
            self.word(with_goal(), ("good", name), "name")
        for name in ("split", "swap"):
            self.word(with_goal(), ("lose", name), "good")
        self.word(with_goal(), ("lose", "cent"), "barter")

    def test_ten_goods_and_twelve_barters(self):
        state = full_state()
        row = (1, -1) + (0,) * 8
        self.word(state, ("add", "more", row), "many")
        self.word(state, ("add", "n3", row), "name")
        self.word(state, ("add", "more", row[:9]), "row")
        self.word(state, ("good", "more"), "many")
        self.word(state, ("good", "g3"), "name")
        self.word(state, ("lose", "g0"), "barter")
        behind = state_after(state_after(state, ("drop", "n11")), ("lose", "g9"))
        for act in (("add", "more", row[:9]), ("good", "more")):
            self.assertIsNone(act_word(behind, act))
        self.assertEqual(state_after(behind, ("add", "more", row[:9]))[4], (0, 1) + (0,) * 10)
        self.word(state_after(behind, ("good", "more")), ("good", "other"), "many")
        self.word(state_after(behind, ("add", "more", row[:9])), ("add", "other", row[:9]), "many")

    def test_values_of_all_kinds_at_each_place(self):
        for state in (with_goal(), nailed(), full_state(), begun(Book([], []), ()), begun(three(), (7, 0, 0))):
            for value in anything():
                for word, size in SIZES.items():
                    acts = [(word, value)] if size == 2 else [(word, value, value), (word, "split", value)]
                    for act in acts:
                        self.assertEqual(act_word(state, act), plain_act_word(state, act))

    def test_good_acts(self):
        self.assertIs(is_good_act(begun(there_and_back(), (1, 1)), ("do", "p", 1)), False)
        self.assertIs(is_good_act(begun(there_and_back(), (1, 1)), ("drop", "p")), True)
        self.assertIs(is_good_act(begun(there_and_back(), (1, 1)), ("drop", "x")), False)
        self.assertIs(is_good_act(begun(three(), (7, 0, 0)), ("do", "p", 1)), True)
        self.assertIs(is_good_act(begun(three(), (7, 0, 0)), ("add", "r", (1, -1, 0))), False)

    def test_states_at_the_limits(self):
        rng = random.Random(362)
        for share in (0.3, 1.0):
            book = drawn_book(rng, 10, 12, share, 9)
            stock = tuple(rng.randint(0, 10 ** 6) for _ in range(10))
            state = begun(book, stock)
            in_time(state_after, state, ("goal", stock))
            in_time(act_word, state, ("goal", stock[::-1]))
            in_time(is_good_act, state, ("good", "more"))
            in_time(is_good_act, state, ("drop", "n3"))


if __name__ == "__main__":
    unittest.main()
