"""house.py: [S10.1], [S10.4] to [S10.7] and [S10.9]."""

import random
import unittest

from eitherbarter.accounts import no_account_row
from eitherbarter.acts import act_word, state_after
from eitherbarter.books import Book
from eitherbarter.carrying import fewest_deeds, next_deeds, way
from eitherbarter.errors import (
    BadAct, BadPrices, BadStock, NoAccount, NotGood, NothingDone, UnknownName, UnlikeBooks,
)
from eitherbarter.house import House
from eitherbarter.squares import square_of
from tests.helpers import (
    anything, coins, dependent, drawn_book, drawn_books, drawn_carry, drawn_good_book, in_time, money, plain_is_good,
    plain_met, plain_step, plain_walk, plus, raised, ring, there_and_back, three,
)
from tests.houses import begun, drawn_act, plain_act_word, plain_state_after

GOAL = ("goal", (10, 2, 0))
WALK = [("do", "split", 1), ("do", "split", 1), ("do", "change", 1), ("do", "change", 1)]


def coined():
    """The house of S10.9."""
    return House(money(), (0, 0, 2))


def told(house):
    """All that a house tells, to be compared."""
    return (
        house.state(), house.done(), house.undone(), house.marks(), [house.marked(name) for name in house.marks()],
        house.paid(), house.due(), house.waste(), house.left(), house.plan(), house.goal(), house.nails(),
    )


class Example(unittest.TestCase):
    def test_the_example(self):
        house = coined()
        self.assertEqual((house.goal(), house.plan(), house.due(), house.waste(), house.left()), (None,) * 5)
        self.assertEqual(house.do(GOAL), 1)
        self.assertEqual((house.plan(), house.due(), house.left()), ((2, 2), 4, 4))
        self.assertEqual(house.next_deeds(), [("split", 1)])
        self.assertEqual(house.do(("do", "split", 1)), 2)
        self.assertEqual(house.plan(), (1, 2))
        house.do(("add", "swap", (-3, 0, 1)))
        square = square_of(house.book())
        self.assertEqual((sorted(square[0]), sorted(square[1])), (
            ["change", "split", "swap"], ["cent", "dime", "nickel"],
        ))
        self.assertEqual((house.plan(), house.due(), house.left(), house.way(), house.next_deeds()), (
            (1, 2, 0), 3, None, None, None,
        ))
        self.assertEqual(raised(house.do, ("drop", "change")), (BadAct, "goal"))
        self.assertEqual(house.do(("drop", "swap")), 4)
        self.assertEqual(house.left(), 3)
        house.do(("do", "split", -1))
        self.assertEqual((house.due(), house.waste(), house.paid()), (4, 2, 2))


class Houses(unittest.TestCase):
    def test_what_a_new_house_has(self):
        for book, stock in ((money(), (1, 2, 3)), (Book([], []), ()), (there_and_back(), (0, 0)), (coins(), (9, 9, 9))):
            house = House(book, stock)
            self.assertEqual(house.state(), begun(book, stock))
            self.assertEqual((house.book(), house.stock(), house.nails()), (book, stock, []))
            self.assertEqual((house.done(), house.undone(), house.marks(), house.paid()), ([], [], [], 0))
            self.assertEqual((house.goal(), house.plan(), house.due(), house.waste()), (None,) * 4)
            self.assertEqual((house.left(), house.way(), house.next_deeds()), (None,) * 3)

    def test_what_is_no_stock(self):
        for value in anything():
            if not isinstance(value, tuple) or len(value) != 3:
                self.assertEqual(raised(House, money(), value), (BadStock, ()))
            if type(value) is not int or value < 0:
                self.assertEqual(raised(House, money(), (0, value, value)), (BadStock, (1,)))
        self.assertEqual(raised(House, money(), [0, 0, 2]), (BadStock, ()))
        self.assertEqual(raised(House, money(), (0, 0, True)), (BadStock, (2,)))
        self.assertEqual(raised(House, Book([], []), None), (BadStock, ()))


class DoneActs(unittest.TestCase):
    def test_undoing_and_redoing(self):
        house = coined()
        acts = [GOAL, *WALK[:2], ("nail", "split")]
        states = [house.state()]
        for k, act in enumerate(acts):
            self.assertEqual(house.do(act), k + 1)
            states.append(house.state())
        self.assertEqual(house.done(), acts)
        for k in (3, 2, 1, 0):
            self.assertEqual(house.undo(), k)
            self.assertEqual((house.state(), house.done(), house.undone()), (states[k], acts[:k], acts[k:]))
        for k in (1, 2, 3):
            self.assertEqual(house.redo(), k)
            self.assertEqual((house.state(), house.done(), house.undone()), (states[k], acts[:k], acts[k:]))
        # A new act leaves no undone ones.
        self.assertEqual(house.do(("good", "penny")), 4)
        self.assertEqual((house.done(), house.undone()), (acts[:3] + [("good", "penny")], []))
        self.assertEqual(raised(house.redo), (NothingDone, None))

    def test_nothing_done(self):
        house = coined()
        for function in (house.undo, house.redo):
            self.assertEqual(raised(function), (NothingDone, None))
        house.do(GOAL)
        self.assertEqual(raised(house.redo), (NothingDone, None))
        house.undo()
        self.assertEqual(raised(house.undo), (NothingDone, None))
        self.assertEqual(house.undone(), [GOAL])
        self.assertEqual(house.redo(), 1)

    def test_refused_acts_change_nothing(self):
        house = coined()
        house.tried([GOAL, WALK[0], WALK[1]])
        house.keep("here")
        house.undo()
        for act in [*anything(), ("do", "split", -3), ("nail", "split"), ("add", "split", (1, -1, 0)), ("fetch", (9, 9, 9))]:
            before = told(house)
            word = act_word(house.state(), act)
            self.assertIsNotNone(word)
            self.assertEqual(raised(house.do, act), (BadAct, word))
            self.assertEqual(raised(house.tried, [("good", "penny"), act]), (BadAct, act_word(
                state_after(house.state(), ("good", "penny")), act,
            )))
            self.assertEqual(raised(house.would, [act]), (BadAct, word))
            self.assertEqual(told(house), before)
        self.assertEqual(house.undone(), [WALK[1]])

    def test_at_most_a_hundred_and_twenty(self):
        house = coined()
        for k in range(60):
            self.assertEqual(house.do(("do", "split", 1)), 2 * k + 1)
            self.assertEqual(house.do(("do", "split", -1)), 2 * k + 2)
        before = told(house)
        self.assertEqual(raised(house.do, ("do", "split", 1)), (BadAct, "full"))
        self.assertEqual(raised(house.do, ("goal", None)), (BadAct, "full"))
        # What is no act is told by its own word.
        self.assertEqual(raised(house.do, ("do", "split", -1)), (BadAct, "deed"))
        self.assertEqual(raised(house.do, None), (BadAct, "form"))
        for function in (house.tried, house.would):
            self.assertEqual(raised(function, [("do", "split", 1)]), (BadAct, "full"))
            self.assertEqual(raised(function, [("do", "split", -1)]), (BadAct, "deed"))
        self.assertEqual(house.tried([]), 120)
        self.assertEqual(house.would([]), house.state())
        self.assertEqual(told(house), before)
        house.undo()
        self.assertEqual(raised(house.tried, [("goal", None)] * 2), (BadAct, "full"))
        self.assertEqual(raised(house.tried, [("goal", None), None]), (BadAct, "form"))
        self.assertEqual(house.redo(), 120)
        house.undo()
        self.assertEqual(house.tried([("goal", None)]), 120)
        self.assertEqual(raised(House.tried, coined(), [("goal", None)] * 121), (BadAct, "full"))
        self.assertEqual(coined().tried([("goal", None)] * 120), 120)
        self.assertEqual(raised(coined().would, [("goal", None)] * 130), (BadAct, "full"))

    def test_tried_and_would(self):
        house = coined()
        acts = [GOAL, *WALK]
        self.assertEqual(house.would(acts)[1:], ((10, 2, 0), (), (10, 2, 0), (0, 0)))
        self.assertEqual(house.state(), begun(money(), (0, 0, 2)))
        self.assertEqual(house.tried(acts[:3]), 3)
        self.assertEqual(house.tried(tuple(acts[3:])), 5)
        self.assertEqual(house.done(), acts)
        house.undo()
        # An empty list changes nothing, so the undone acts stay.
        self.assertEqual(house.tried([]), 4)
        self.assertEqual(house.tried(()), 4)
        self.assertEqual(house.undone(), acts[4:])
        self.assertEqual(house.would([]), house.state())
        before = told(house)
        self.assertEqual(raised(house.tried, [("good", "a"), ("good", "a"), None]), (BadAct, "name"))
        self.assertEqual(raised(house.would, [("good", "a"), ("good", "a"), None]), (BadAct, "name"))
        self.assertEqual(told(house), before)
        self.assertEqual(house.tried([("good", "a"), ("lose", "a")]), 6)
        self.assertEqual(house.undone(), [])

    def test_acts_are_returned_as_they_were_passed(self):
        house = coined()
        acts = [GOAL, WALK[0], ("add", "swap", (-3, 0, 1))]
        house.tried(acts)
        house.undo()
        for one, other in zip(house.done() + house.undone(), acts):
            self.assertIs(one, other)

    def test_lists_are_new_and_none_is_kept(self):
        house = coined()
        acts = [GOAL, *WALK[:2]]
        house.tried(acts)
        acts.clear()
        house.undo()
        house.keep("here")
        for function in (house.done, house.undone, house.nails, house.marks, house.way, house.next_deeds):
            first = function()
            self.assertIs(type(first), list)
            self.assertIsNot(first, function())
            copied = list(first)
            first.append("more")
            self.assertEqual(function(), copied)
        self.assertEqual(len(house.done()), 2)


class Histories(unittest.TestCase):
    def check(self, house):
        """What a house tells at one moment, held against plain looks and the functions of earlier stages."""
        book, stock, nails, goal, plan = house.state()
        self.assertEqual((house.book(), house.stock(), house.nails()), (book, stock, list(nails)))
        self.assertEqual((house.goal(), house.plan()), (goal, plan))
        self.assertEqual(house.paid(), sum(act[0] == "do" for act in house.done()))
        prices = [3 * k + 1 for k in range(len(book.names()))]
        if goal is None:
            self.assertEqual((house.due(), house.waste(), house.left(), house.way(), house.next_deeds()), (None,) * 5)
            self.assertIsNone(house.left_cost(prices))
            return
        self.assertEqual(house.due(), sum(map(abs, plan)))
        if not plain_is_good(book):
            self.assertEqual((house.left(), house.way(), house.next_deeds()), (None,) * 3)
            self.assertIsNone(house.left_cost(prices))
            return
        self.assertEqual(house.left(), house.due())
        self.assertEqual(house.left(), fewest_deeds(book, stock, goal))
        self.assertEqual(house.left_cost(prices), sum(abs(n) * price for n, price in zip(plan, prices)))
        self.assertEqual(house.left_cost(tuple(prices)), house.left_cost(prices))
        deeds = house.way()
        self.assertEqual(len(deeds), house.left())
        self.assertEqual(plain_walk(book, stock, deeds)[-1], goal)
        self.assertEqual(len(way(book, stock, goal)), len(deeds))
        asked = [(name, 1 if n > 0 else -1) for name, n in zip(book.names(), plan) if n]
        ready = [deed for deed in asked if plain_step(book, stock, deed) is not None]
        self.assertEqual(house.next_deeds(), ready)
        self.assertEqual(house.next_deeds(), next_deeds(book, stock, goal))
        # As long as one is due some deed can be done, and none of those that are due is of a nailed barter.
        self.assertEqual(bool(ready), house.left() > 0)
        self.assertFalse([name for name, _ in asked if name in nails])

    def follow(self, rng, house, most):
        """Drawn acts, undone and redone at times, with the state and the deeds that were not asked for told along."""
        past, ahead = [(house.state(), None)], []
        for _ in range(most):
            roll = rng.random()
            if roll < 0.15 and len(past) > 1:
                self.assertEqual(house.undo(), len(past) - 2)
                ahead.insert(0, past.pop())
            elif roll < 0.25 and ahead:
                self.assertEqual(house.redo(), len(past))
                past.append(ahead.pop(0))
            else:
                self.follow_act(house, drawn_act(rng, house.state()), past, ahead)
            state, vain = past[-1]
            self.assertEqual(house.state(), state)
            self.assertEqual(house.waste(), None if vain is None else 2 * vain)
            self.assertEqual((len(house.done()), len(house.undone())), (len(past) - 1, len(ahead)))
            self.check(house)

    def follow_act(self, house, act, past, ahead):
        """One act, whether it can be done or not."""
        state, vain = past[-1]
        word = plain_act_word(state, act)
        if word is not None:
            self.assertEqual(raised(house.do, act), (BadAct, word))
            return
        if act[0] == "goal":
            vain = None if act[1] is None else 0
        elif act[0] == "do" and vain is not None:
            number = dict(zip(state[0].names(), state[4]))[act[1]]
            vain += number * act[2] <= 0
        behind = plain_state_after(state, act)
        self.assertEqual(house.would([act]), behind)
        self.assertEqual(house.do(act), len(past))
        past.append((behind, vain))
        ahead.clear()

    def test_drawn_histories(self):
        rng = random.Random(371)
        for _ in range(60):
            book = drawn_book(rng, 4, 3, 0.5, 2) if rng.random() < 0.3 else drawn_good_book(rng, 4, 0.8, 2)[0]
            house = House(book, tuple(rng.randint(0, 4) for _ in book.goods()))
            self.follow(rng, house, 40)


class Waste(unittest.TestCase):
    def test_twice_the_deeds_that_were_not_asked_for(self):
        house = coined()
        house.do(("do", "split", 1))
        self.assertEqual((house.paid(), house.waste()), (1, None))
        house.do(("goal", (10, 2, 0)))
        self.assertEqual((house.paid(), house.due(), house.waste()), (1, 3, 0))
        for act, due, waste in (
            (("do", "split", -1), 4, 2), (("do", "split", 1), 3, 2), (("bring", (0, 1, 0)), 3, 2),
            (("do", "change", 1), 2, 2), (("do", "change", -1), 3, 4), (("good", "penny"), 3, 4),
            (("add", "swap", (-3, 0, 1, 0)), 3, 4), (("nail", "swap"), 3, 4), (("drop", "swap"), 3, 4),
            (("do", "change", 1), 2, 4), (("fetch", (0, 1, 0, 0)), 2, 4), (("lose", "penny"), 2, 4),
            (("goal", (10, 2, 0)), 2, 0), (("do", "change", 1), 1, 0), (("do", "split", 1), 0, 0),
            (("do", "split", -1), 1, 2), (("goal", None), None, None),
        ):
            self.assertIsNone(raised(house.do, act), act)
            self.assertEqual((house.due(), house.waste()), (due, waste), act)
        self.assertEqual(house.paid(), 9)
        house.undo()
        self.assertEqual((house.due(), house.waste(), house.paid()), (1, 2, 9))
        house.undo()
        self.assertEqual((house.due(), house.waste(), house.paid()), (0, 0, 8))

    def test_undoing_a_goal_brings_the_one_before(self):
        house = coined()
        house.tried([GOAL, ("do", "split", 1), ("do", "split", -1), ("goal", (0, 0, 2)), ("do", "split", 1)])
        self.assertEqual((house.due(), house.waste()), (1, 2))
        house.undo()
        self.assertEqual((house.due(), house.waste()), (0, 0))
        house.undo()
        self.assertEqual((house.goal(), house.due(), house.waste()), ((10, 2, 0), 4, 2))

    def test_in_books_that_are_not_good(self):
        house = House(dependent(), (2, 0))
        house.do(("goal", (0, 3)))
        self.assertEqual((house.plan(), house.due(), house.waste(), house.left()), ((0, 2, 1), 3, 0, None))
        house.tried([("bring", (12, 0)), ("do", "r", 1)])
        self.assertEqual((house.plan(), house.due(), house.waste()), ((-1, 2, 1), 4, 2))
        house = House(there_and_back(), (1, 0))
        house.do(("goal", (1, 0)))
        self.assertEqual((house.due(), house.left(), house.way(), house.next_deeds()), (0, None, None, None))

    def test_a_way_leads_to_the_goal_and_leaves_the_waste(self):
        rng = random.Random(372)
        for _ in range(40):
            book, f, _, g = drawn_carry(rng, rng.randint(2, 8), rng.randint(0, 40), 5, rng.randint(0, 1))
            house = House(book, f)
            house.do(("goal", g))
            due = house.due()
            deeds = house.way()
            for k, deed in enumerate(deeds):
                self.assertEqual(house.left(), due - k)
                house.do(("do", *deed))
                self.assertEqual(house.waste(), 0)
            self.assertEqual((house.stock(), house.left(), house.way(), house.next_deeds()), (g, 0, [], []))
            self.assertEqual(house.paid(), due)

    def test_whichever_due_deeds_are_done_whatever_comes_between(self):
        rng = random.Random(373)
        others = ("bring", "fetch", "add", "drop", "nail", "free", "good", "lose")
        reached = 0
        for _ in range(60):
            book, f, _, g = drawn_carry(rng, rng.randint(2, 5), rng.randint(1, 15), 3, 1)
            house = House(book, f)
            house.do(("goal", g))
            due = house.due()
            for _ in range(100):
                if not house.due():
                    break
                act = drawn_act(rng, house.state(), others)
                if rng.random() < 0.6 and act_word(house.state(), act) is None:
                    if plain_is_good(house.would([act])[0]):
                        house.do(act)
                deeds = house.next_deeds()
                self.assertTrue(deeds)
                house.do(("do", *rng.choice(deeds)))
                self.assertEqual(house.waste(), 0)
            if not house.due():
                reached += 1
                self.assertEqual((house.stock(), house.paid()), (house.goal(), due))
        self.assertGreater(reached, 50)

    def test_left_are_the_fewest_deeds_of_all_scripts(self):
        rng = random.Random(374)
        compared = 0
        for _ in range(40):
            book, f, _, g = drawn_carry(rng, rng.randint(2, 4), rng.randint(0, 8), 3, 1)
            met = plain_met(book, f, bound=500)
            if met is not None:
                house = House(book, f)
                house.do(("goal", g))
                self.assertEqual(house.left(), met[g])
                compared += 1
        self.assertGreater(compared, 15)

    def test_bad_prices_come_first(self):
        good = coined()
        good.do(GOAL)
        bad = House(there_and_back(), (1, 0))
        for house in (coined(), good, bad):
            for value in [*anything(), [1], [1, 2, 3], {"split": 1}]:
                if not isinstance(value, (list, tuple)) or len(value) != 2:
                    self.assertEqual(raised(house.left_cost, value), (BadPrices, ()))
                if type(value) is not int or value < 0:
                    self.assertEqual(raised(house.left_cost, [value, value]), (BadPrices, (0,)))
                    self.assertEqual(raised(house.left_cost, (1, value)), (BadPrices, (1,)))
        self.assertEqual(good.left_cost([3, 0]), 6)
        self.assertEqual(good.left_cost((0, 10 ** 12)), 2 * 10 ** 12)
        self.assertIsNone(coined().left_cost([3, 0]))
        self.assertIsNone(bad.left_cost([3, 0]))

    def test_dues_of_any_size(self):
        great = 10 ** 6
        house = House(money(), (0, 0, great))
        house.do(("goal", (10 * great, 0, 0)))
        self.assertEqual((house.due(), house.left(), house.left_cost([1, 10])), (3 * great, 3 * great, 21 * great))


class Marks(unittest.TestCase):
    def test_marks_keep_the_order_in_which_they_first_were_kept(self):
        house = coined()
        self.assertIsNone(house.keep("b"))
        house.keep("a")
        house.do(("do", "split", 1))
        house.keep("b")
        house.keep("split")
        self.assertEqual(house.marks(), ["b", "a", "split"])
        self.assertEqual(house.marked("b"), (money(), (0, 2, 1)))
        self.assertEqual(house.marked("a"), (money(), (0, 0, 2)))
        self.assertIs(type(house.marked("a")), tuple)

    def test_neither_acts_nor_undoing_change_marks(self):
        house = coined()
        house.tried([("do", "split", 1), ("good", "penny")])
        house.keep("here")
        kept = house.marked("here")
        house.do(("bring", (1, 1, 1, 1)))
        for _ in range(3):
            house.undo()
        self.assertEqual((house.marks(), house.marked("here")), (["here"], kept))
        self.assertEqual(kept[1], (0, 2, 1, 0))
        house.redo()
        self.assertEqual((house.marks(), house.undone()[0]), (["here"], ("good", "penny")))
        # Keeping a mark is no act.
        house.keep("there")
        self.assertEqual(len(house.undone()), 2)

    def test_unknown_names(self):
        house = coined()
        house.keep("here")
        for value in anything():
            if value != "unknown":
                self.assertEqual(raised(house.keep, value), (UnknownName, value))
            for function in (house.marked, house.due_to):
                self.assertEqual(raised(function, value), (UnknownName, value))
        self.assertEqual(house.marks(), ["here"])

    def test_due_to_a_mark(self):
        house = coined()
        house.keep("begin")
        self.assertEqual(house.due_to("begin"), 0)
        house.tried([("do", "split", 1), ("do", "split", 1), ("do", "change", 1)])
        self.assertEqual(house.due_to("begin"), 3)
        # Whatever is nailed.
        house.tried([("nail", "split"), ("nail", "change")])
        self.assertEqual(house.due_to("begin"), 3)
        house.keep("end")
        house.undo()
        house.do(("bring", (1, 0, 0)))
        kind, row = raised(house.due_to, "begin")
        self.assertIs(kind, NoAccount)
        self.assertEqual(row, no_account_row(house.book(), house.stock(), (0, 0, 2)))
        house.do(("good", "penny"))
        for name in ("begin", "end"):
            self.assertEqual(raised(house.due_to, name), (UnlikeBooks, None))
        house.tried([("lose", "penny"), ("fetch", (1, 0, 0))])
        self.assertEqual(house.due_to("begin"), 3)

    def test_errors_in_their_order(self):
        house = House(there_and_back(), (1, 0))
        house.keep("bad")
        house.do(("bring", (1, 0)))
        self.assertEqual(raised(house.due_to, "bad"), (NotGood, square_of(there_and_back())))
        house.do(("good", "c"))
        self.assertEqual(raised(house.due_to, "bad"), (UnlikeBooks, None))
        self.assertEqual(raised(house.due_to, "good"), (UnknownName, "good"))
        # The same barters in another order are another book.
        house = House(money(), (0, 0, 2))
        house.keep("here")
        house.tried([("drop", "split"), ("add", "split", (0, 2, -1))])
        self.assertEqual(raised(house.due_to, "here"), (UnlikeBooks, None))
        house.tried([("drop", "change"), ("add", "change", (5, -1, 0))])
        self.assertEqual(house.due_to("here"), 0)


class Twins(unittest.TestCase):
    def pasts(self):
        """Houses that are all unlike one another."""
        houses = [coined(), House(money(), (0, 0, 3)), House(three(), (0, 0, 2)), House(Book([], []), ())]
        for acts in ([GOAL], [GOAL, WALK[0]], [("goal", None)], [WALK[0], ("do", "split", -1)]):
            houses.append(coined())
            houses[-1].tried(acts)
        houses.append(houses[5].twin())
        houses[-1].undo()
        houses.append(houses[5].twin())
        houses[-1].undo()
        houses[-1].undo()
        for names in (["a"], ["b"], ["a", "b"], ["b", "a"]):
            houses.append(coined())
            for name in names:
                houses[-1].keep(name)
        houses.append(coined())
        houses[-1].tried([("bring", (1, 0, 0))])
        houses[-1].keep("a")
        houses[-1].undo()
        return houses

    def test_equal_houses(self):
        houses = self.pasts()
        again = self.pasts()
        for j, one in enumerate(houses):
            for k, other in enumerate(again):
                self.assertIs(one == other, j == k, (j, k))
                self.assertIs(one != other, j != k)
            self.assertIs(one == one.twin(), True)
            self.assertIs(one.twin() == one, True)
            for value in [*anything(), one.state(), one.book()]:
                self.assertIs(one == value, False)
                self.assertIs(value == one, False)

    def test_a_mark_of_another_stock_or_book(self):
        one, other, third = coined(), coined(), coined()
        one.keep("a")
        other.do(("bring", (1, 0, 0)))
        other.keep("a")
        other.undo()
        third.do(("bring", (1, 0, 0)))
        third.undo()
        self.assertIs(one == other, False)
        third.keep("a")
        self.assertIs(other == third, False)
        self.assertEqual(other.undone(), third.undone())

    def test_a_twin_goes_its_own_way(self):
        for house in self.pasts():
            before = told(house)
            twin = house.twin()
            self.assertEqual(told(twin), before)
            if twin.done():
                twin.undo()
            twin.do(("goal", None))
            twin.keep("more")
            self.assertEqual(told(house), before)
            self.assertIs(house == twin, False)
            twin = house.twin()
            house.keep("more")
            house.do(("goal", None))
            self.assertEqual(told(twin), before)

    def test_twins_of_drawn_histories(self):
        rng = random.Random(375)
        for _ in range(20):
            book = drawn_good_book(rng, 4, 0.8, 2)[0]
            house = House(book, tuple(rng.randint(0, 4) for _ in book.goods()))
            other = House(book, house.stock())
            for _ in range(30):
                act = drawn_act(rng, house.state())
                if act_word(house.state(), act) is None:
                    house.do(act)
                    self.assertIs(house == other, False)
                    other.do(act)
                self.assertIs(house == other, True)
                self.assertIs(house == house.twin(), True)


class Limits(unittest.TestCase):
    def test_houses_at_the_limits(self):
        rng = random.Random(376)
        for _ in range(6):
            book, f, _, g = drawn_carry(rng, 10, 60, 9, 0, 1.0)
            house = House(book, plus(f, (5 * 10 ** 5,) * 10))
            house.keep("begin")
            house.do(("goal", plus(g, (5 * 10 ** 5,) * 10)))
            self.assertLessEqual(house.due(), 60)
            deeds = in_time(house.way)
            acts = [("do", *deed) for deed in deeds]
            self.assertEqual(in_time(house.would, acts)[1], house.goal())
            in_time(house.next_deeds)
            self.assertEqual(in_time(house.tried, acts), 1 + len(acts))
            self.assertEqual(in_time(house.due_to, "begin"), len(acts))
            more = [("goal", house.stock())] * (120 - house.tried([]))
            self.assertEqual(in_time(house.tried, more), 120)
            self.assertIs(in_time(lambda one: one == one.twin(), house), True)
        for book in (drawn_book(rng, 10, 12, 0.5), drawn_book(rng, 10, 12, 1.0), ring(10)):
            house = House(book, (9,) * 10)
            self.assertEqual(in_time(house.tried, [("goal", (9,) * 10)] * 120), 120)
            for function in (house.due, house.waste, house.left, house.way, house.next_deeds, house.twin):
                in_time(function)

    def test_histories_of_drawn_books(self):
        for book in drawn_books(377, 40):
            house = House(book, (3,) * len(book.goods()))
            for k in range(20):
                self.assertEqual(house.do(("goal", house.stock())), k + 1)
            self.assertEqual((house.due(), house.waste()), (0, 0))
            self.assertEqual(house.left(), 0 if plain_is_good(book) else None)


if __name__ == "__main__":
    unittest.main()
