"""[0.1] to [0.3]: what holds of every function and class."""

import copy
import unittest

from eitherbarter.accounts import (
    account_deeds, account_of, balance, cancels_at, cost, judge_account, judge_no_account, no_account_row, reduced,
)
from eitherbarter.acts import act_word, is_good_act, state_after
from eitherbarter.between import all_between, count_between, is_between, nearest_stock
from eitherbarter.books import (
    Book, book_pieces, joined_books, part_book, turned_book, with_barter, without_barter,
)
from eitherbarter.booktexts import book_text, read_book
from eitherbarter.breaking import breaking, judge_breaking
from eitherbarter.carrying import (
    begins, change_of, fewest_deeds, judge_run, judge_way, last_deeds, least_cost, next_deeds, run_of, way,
)
from eitherbarter.chains import chain_between, judge_chain, judge_round, linking, links_of, round_of
from eitherbarter.changes import are_free, can_put, free_pairs, judge_put, put_paper
from eitherbarter.console import Console
from eitherbarter.deeds import all_deeds, deed_back, done, is_deed, is_idle
from eitherbarter.errors import BadAct, BadBook, BadMade, BadTree, BarterError, NameMissing
from eitherbarter.fractions import added, is_fraction, lowest, row_sum, times
from eitherbarter.goals import dues_after, free_account, plan_after, wasted
from eitherbarter.house import House
from eitherbarter.lexemes import lexemes
from eitherbarter.lotnumbers import drawn_lot, lot_at, lot_number, lots_from, next_lot
from eitherbarter.lots import first_stock, is_one_lot, lot_of, lots_at
from eitherbarter.makers import (
    book_of_boxes, book_of_coins, book_of_tree, boxes_tree, bridged_books, coins_tree, numbered_form, plain_tree,
)
from eitherbarter.mirrors import account_to_stock, judge_mirror_paper, mirror_paper, mirror_row
from eitherbarter.moments import all_moments, is_ample, is_moment, needed, next_names, stock_at
from eitherbarter.orders import (
    any_order, count_orders, drawn_order, judge_order, next_order, order_at, order_number, order_script,
    orders_beginning,
)
from eitherbarter.plainwalks import (
    cheapest_by_walks, cheapest_walk, fewest_by_walks, lot_by_walks, walk_by_walks, within,
)
from eitherbarter.pumps import (
    good_paper, great_pump, judge_good_paper, judge_pump, kept_goods, least_gains, pump_of, pumped_goods,
)
from eitherbarter.scripts import (
    first_bad, price, read_script, script_back, script_text, stocks_along, walked,
)
from eitherbarter.series import lot_series, mirror, stock_series
from eitherbarter.solving import idle_stairs, is_balance, rest, stairs
from eitherbarter.squares import all_squares, is_good_book, judge_square, square_of
from eitherbarter.stocks import check_stock, is_stock, read_stock, stock_text
from eitherbarter.trees import forks, judge_tree, leaves, tree_of
from eitherbarter.weights import is_keeper, judge_weights, least_keepers, tree_weights, weight, weights_of
from eitherbarter.words import is_integer, is_number, is_word
from tests.helpers import (
    anything, coins, dependent, drawn_books, letters, money, pair, ring, there_and_back, three, three_twos,
)


def frozen(value):
    """A value with which others can be compared, objects of the package told apart by what they tell."""
    if isinstance(value, Book):
        return ("Book", value.goods(), value.barters())
    if isinstance(value, House):
        marks = [value.marked(name) for name in value.marks()]
        return ("House", frozen([value.state(), value.done(), value.undone(), value.marks(), marks]))
    if isinstance(value, Console):
        return ("Console", frozen(value.house()))
    if isinstance(value, (BarterError, NameMissing)):
        return (type(value).__name__, frozen(vars(value)))
    if isinstance(value, (list, tuple)):
        return (type(value).__name__, [frozen(member) for member in value])
    if isinstance(value, dict):
        return ("dict", [(frozen(key), frozen(member)) for key, member in value.items()])
    return (type(value).__name__, value)


def outcome(function, arguments):
    """What a call returns or raises, to be compared."""
    try:
        return ("returned", frozen(function(*arguments)))
    except (BarterError, NameMissing) as error:
        return ("raised", frozen(error))


def inner_lists(value):
    """All lists and dicts within a value."""
    found = []
    if isinstance(value, (list, dict)):
        found.append(value)
    if isinstance(value, (list, tuple, dict)):
        for member in value.values() if isinstance(value, dict) else value:
            found.extend(inner_lists(member))
    return found


def book_calls():
    """Calls of stage 1: functions and lists of their arguments, right ones and wrong ones."""
    book = coins()
    other = Book(["tea", "cup"], [("pour", (-1, 2)), ("drink", (1, -2))])
    text = book_text(book)
    calls = [
        (Book, [["a", "b"], [("p", (-1, 1))]]), (Book, [["a", "b"], [("p", [-1, 1])]]), (Book, [["a", "a"], []]),
        (Book, [["a"], [["p", (-1,)]]]), (Book, [[], []]),
        (turned_book, [book, ["pack", "change"]]), (turned_book, [book, ["pack", "coin"]]),
        (part_book, [book, ["bag", "note"]]), (part_book, [book, ["bag", "pack"]]),
        (with_barter, [book, "more", (1, -1, 0)]), (with_barter, [book, "pack", (1, -1, 0)]),
        (without_barter, [book, "pack"]), (without_barter, [book, "bag"]),
        (book_pieces, [book]), (joined_books, [book, other]), (joined_books, [book, book]),
        (lexemes, [text]), (lexemes, ["a ["]), (book_text, [book]), (read_book, [text]), (read_book, ["book ["]),
        (read_book, ["book (a, a) {}"]),
        (lambda b: b.goods(), [book]), (lambda b: b.barters(), [book]), (lambda b: b.names(), [book]),
    ]
    for method in ("row", "takes", "gives", "barter_number", "good_number"):
        for name in ("pack", "coin"):
            calls.append((lambda b, n, m=method: getattr(b, m)(n), [book, name]))
    for value in anything():
        calls.extend([
            (is_word, [value]), (is_integer, [value]), (is_number, [value]), (Book, [value, value]),
            (Book, [[value], []]), (Book, [["a", "b"], value]), (Book, [["a", "b"], [value, value]]),
            (Book, [["a", "b"], [("p", value)]]), (turned_book, [book, [value]]), (part_book, [book, [value]]),
            (with_barter, [book, value, value]), (without_barter, [book, value]),
            (lambda a, b: a == b, [book, value]),
        ])
    return calls


def tree_calls():
    """Calls of stage 2 and of stairs, likewise."""
    calls = [
        (lowest, [6, -4]), (added, [(1, 2), (1, 3)]), (times, [(1, 2), (2, 3)]), (row_sum, [[1, 2], [(1, 2), (1, 3)]]),
        (row_sum, [(1, 2), ((1, 2), (1, 3))]),
    ]
    for book in [letters(), ring(3), dependent(), Book([], []), *drawn_books(45, 12, 5, 5)]:
        for function in (links_of, round_of, square_of, is_good_book, all_squares, tree_of, stairs, idle_stairs):
            calls.append((function, [book]))
        row = tuple(range(-1, len(book.goods()) - 1))
        calls.extend([(rest, [book, row]), (is_balance, [book, row])])
        for one in book.goods():
            for other in book.goods():
                calls.extend([(linking, [book, one, other]), (chain_between, [book, one, other])])
    tree = ((("a", "b", "p"), ("c", "e", "r"), None), "d", "q")
    for function in (leaves, forks):
        calls.append((function, [tree]))
    for value in [*anything(), tree, ("a", "p", "b"), (("n0", "n1", "n2"), ("g0", "g1", "g2"))]:
        calls.extend([(leaves, [value]), (forks, [value]), (is_fraction, [value])])
        for book in (letters(), ring(3)):
            for function in (judge_chain, judge_round, judge_square, judge_tree):
                calls.append((function, [book, value]))
            calls.extend([(linking, [book, value, "b"]), (chain_between, [book, "g1", value])])
    return calls


def account_calls():
    """Calls of stage 3, likewise."""
    calls = []
    for book, f, g in (
        (three(), (7, 0, 0), (1, 0, 1)), (three(), (2, 0, 0), (1, 2, 0)), (dependent(), (2, 0), (0, 3)),
        (dependent(), (1, 0), (0, 2)), (Book([], []), (), ()), (Book(["a"], []), (1,), (2,)),
    ):
        account = tuple(range(-1, len(book.names()) - 1))
        prices = [3] * len(book.names())
        calls.extend([
            (balance, [book, account]), (account_of, [book, f, g]), (no_account_row, [book, f, g]),
            (reduced, [book, account]), (cost, [book, account, prices]), (cost, [book, account, [-1]]),
            (account_deeds, [book, account]), (cancels_at, [book, account, account[::-1]]),
        ])
        for value in [*anything(), account, [1, 2], [(1, 2), (0, 1), (0, 1)], ((1, 2), (0, 1))]:
            for function in (balance, reduced, account_deeds):
                calls.append((function, [book, value]))
            for function in (judge_account, judge_no_account):
                calls.append((function, [book, f, g, value]))
            calls.extend([
                (cost, [book, value, prices]), (cost, [book, account, value]), (cancels_at, [book, account, value]),
            ])
    return calls


def deed_calls():
    """Calls of stage 4, likewise."""
    calls = []
    script = [("p", 1), ("p", 1), ("p", 1), ("q", 1)]
    for book, stock in ((pair(), (7, 0, 0)), (pair(), (1, 0, 0)), (Book([], []), ()), (Book(["a"], []), (3,))):
        names = book.names()
        other = stock[::-1]
        calls.extend([(function, [book, stock]) for function in (stock_text, all_deeds, is_idle, lot_by_walks)])
        calls.extend([(within, [book, stock, 3]), (within, [there_and_back(), (300, 300), 12])])
        for function in (fewest_by_walks, walk_by_walks):
            calls.extend([(function, [book, stock, other, 4]), (function, [book, stock, stock, 0])])
        for function in (cheapest_by_walks, cheapest_walk):
            calls.extend([(function, [book, stock, other, [1] * len(names)]), (function, [book, stock, stock, [0, 0]])])
        for value in [*anything(), script, script[3:], [("p", 1), ["p", 1]], stock, ("p", 1), ["p", 1]]:
            for function in (is_stock, check_stock):
                calls.append((function, [book, value]))
            for function in (is_deed, done, deed_back, first_bad):
                calls.append((function, [book, stock, value]))
            for function in (stocks_along, walked, script_back):
                calls.extend([(function, [book, stock, value if isinstance(value, list) else [value]])])
    for text in (
        "stock { a 1; b 2; c 3; }", "stock { a 1; c 2; b 3; }", "stock {}", "stock { a", "", "script { back p; }",
    ):
        calls.extend([(read_stock, [pair(), text]), (read_script, [text])])
    calls.extend([(price, [pair(), [1, 5], script]), (script_text, [script]), (script_text, [[]])])
    return calls


def carry_calls():
    """Calls of stage 5, likewise."""
    calls = []
    walk = [("split", 1), ("split", 1), ("change", 1), ("change", 1)]
    for book, f, g in (
        (money(), (0, 0, 2), (10, 2, 0)), (money(), (0, 0, 2), (0, 0, 3)), (ring(3), (1, 0, 0), (0, 1, 0)),
        (Book([], []), (), ()), (money(), (5, 1, 1), (5, 1, 1)),
    ):
        for function in (way, fewest_deeds, next_deeds, last_deeds):
            calls.append((function, [book, f, g]))
        calls.append((least_cost, [book, f, g, [3, 0]]))
        for value in [*anything(), walk, walk + walk[:1], [("split", 1), ("split", -1)], ("split", 1), ("change", -1)]:
            for function in (change_of, begins, judge_way):
                calls.append((function, [book, f, g, value]))
    for book, f, account in (
        (there_and_back(), (0, 0), (1, 1)), (there_and_back(), (1, 0), (1, 1)), (ring(4), (0, 0, 0, 0), (2, 2, 2, 2)),
        (money(), (0, 0, 2), (2, 2)), (money(), (0, 0, 2), (3, 2)), (Book([], []), (), ()),
    ):
        calls.append((run_of, [book, f, account]))
        for value in [*anything(), ("stuck", [], (("p", "a"), ("q", "b"))), ("carried", walk), ["carried", walk]]:
            calls.extend([(run_of, [book, f, value]), (judge_run, [book, f, account, value])])
    return calls


def order_calls():
    """Calls of stages 5 and 6 about what is between, moments and orders, likewise."""
    calls = []
    order = ["split", "change", "split", "change"]
    for book, f, account in (
        (money(), (0, 0, 2), (2, 2)), (money(), (10, 2, 0), (-2, -2)), (money(), (0, 0, 2), (3, 2)),
        (ring(3), (1, 0, 0), (0, 0, 0)), (Book([], []), (), ()), (money(), (5, 1, 1), (0, 0)),
    ):
        g = f[::-1] if book != money() else (10, 2, 0)
        for function in (all_between, count_between):
            calls.append((function, [book, f, g]))
        calls.extend([(is_between, [book, f, f, g]), (nearest_stock, [book, f, [g, f]])])
        for function in (all_moments, is_ample, needed, any_order, count_orders):
            calls.append((function, [book, f, account]))
        for number in (0, 1, 2, 3, 10 ** 59):
            calls.extend([(order_at, [book, f, account, number]), (drawn_order, [book, f, account, number])])
        for value in [*anything(), order, order[:2], tuple(order), order[::-1], (1, 1), (0, 1), [1, 1]]:
            for function in (stock_at, is_moment, next_names, judge_order):
                calls.append((function, [book, f, account, value]))
            members = value if isinstance(value, (list, tuple)) else [value]
            for function in (order_script, order_number, next_order, orders_beginning):
                calls.append((function, [book, f, account, members]))
            calls.extend([(needed, [book, f, value]), (count_orders, [book, f, value])])
    return calls


def weight_calls():
    """Calls of stage 7, likewise."""
    calls = []
    twice = Book(["a", "b"], [("u", (-1, 2)), ("v", (2, -1))])
    tree = (("a", "b", "p"), "c", "q")
    for book in (three(), twice, Book([], []), Book(["a", "b"], []), ring(3), *drawn_books(46, 8, 5, 5)):
        row = tuple(range(-1, len(book.goods()) - 1))
        calls.append((weight, [book, row, row[::-1]]))
        for function in (
            least_keepers, weights_of, least_gains, pump_of, kept_goods, pumped_goods, great_pump,
        ):
            calls.append((function, [book]))
        for good in [*book.goods(), "nothing"]:
            calls.append((good_paper, [book, good]))
        for value in [*anything(), tree, (1, 2, 6), [1, 2, 6], (2, 1), ("kept", (1, 2, 6)), ("pumped", (2, 1))]:
            for function in (is_keeper, judge_weights, judge_pump, tree_weights, good_paper):
                calls.append((function, [book, value]))
            calls.extend([(judge_good_paper, [book, "a", value]), (judge_good_paper, [book, value, value])])
    return calls


def change_calls():
    """Calls of stage 8, likewise."""
    calls = []
    kinds = [("nail", None), ("plank", None), ("crate", (("nail", 8), ("plank", 6)))]
    tree = (("b", "a", None), "c", ("p", (("a", 2),), (("c", 1),)))
    bridge = ("s", (("a", 2),), (("e", 5),))
    other = Book(["d", "e"], [("r", (-2, 3))])
    broken = ((("p", "q"), ("a", "b")), (0, 0), (0, 0), (1, 1))
    for book in (three(), there_and_back(), letters(), Book(["a", "b", "c"], []), *drawn_books(47, 8, 5, 5)):
        row = (1, -1) + (0,) * (len(book.goods()) - 2) if len(book.goods()) > 1 else ()
        calls.extend([(breaking, [book]), (free_pairs, [book]), (numbered_form, [book])])
        calls.extend([(bridged_books, [book, other, bridge]), (bridged_books, [other, book, bridge])])
        if row:
            calls.extend([(can_put, [book, row]), (put_paper, [book, "new", row])])
        for value in [*anything(), broken, kinds, tree, ("chain", ("a", "p", "b")), "a", "b"]:
            calls.extend([(judge_breaking, [book, value]), (are_free, [book, value, "b"]), (are_free, [book, "a", value])])
            if row:
                calls.append((judge_put, [book, "new", row, value]))
    for value in [*anything(), kinds, [("penny", None), ("dime", 10)], [("a", None), ["b", 1]], tree, [tree], bridge]:
        for function in (book_of_boxes, boxes_tree, book_of_coins, coins_tree, book_of_tree, plain_tree):
            calls.append((function, [value]))
        calls.append((bridged_books, [three(), other, value]))
    return calls


def series_calls():
    """Calls of stage 9 about series and mirrors, likewise."""
    calls = [(stock_series, [[4, 6, 5], 12]), (stock_series, [[], 0])]
    for book, weights in (
        (three_twos(), [4, 6, 5]), (three(), [1, 2, 6]), (Book([], []), []), (Book(["a", "b"], []), [2, 3]),
        (ring(3), [1, 1, 1]), (Book(["a"], []), [3]),
    ):
        calls.extend([(lot_series, [book, weights, 9]), (mirror, [book, weights]), (mirror_row, [book])])
        for number in (-1, 0, 2):
            row = tuple(number - 3 * (j == 1) for j in range(len(weights)))
            calls.extend([(account_to_stock, [book, row]), (mirror_paper, [book, row])])
            for value in [*anything(), ("here", (0, 1)), ("there", (0, 1)), ["here", (0, 1)], ("here", [0, 1])]:
                calls.append((judge_mirror_paper, [book, row, value]))
    return calls


def lot_calls():
    """Calls of stage 9 about lots, likewise."""
    calls = []
    for book, weights, stock in (
        (three_twos(), [4, 6, 5], (2, 1, 0)), (three(), [1, 2, 6], (7, 1, 0)), (Book([], []), [], ()),
        (Book(["a", "b"], []), [2, 3], (3, 2)), (ring(3), [1, 1, 1], (0, 1, 2)),
        (Book(["a", "b"], [("p", (-1, 1))]), [1, 1], (3000, 0)), (Book(["a", "b", "c"], []), [1, 1, 1], (90, 0, 0)),
    ):
        calls.extend([(is_one_lot, [book, stock, stock[::-1]]), (lot_of, [book, stock]), (first_stock, [book, stock])])
        weight_of = sum(n * w for n, w in zip(stock, weights))
        if weight_of <= 300:
            calls.extend([(lot_number, [book, weights, stock]), (next_lot, [book, weights, stock])])
        for number in (0, 1, 12, 300):
            calls.extend([(lots_at, [book, weights, number]), (lots_from, [book, weights, number])])
            calls.append((lambda b, w, n: lots_from(b, w, n, number=1, many=3), [book, weights, number]))
            for k in (0, 2, 10 ** 59):
                calls.extend([(lot_at, [book, weights, number, k]), (drawn_lot, [book, weights, number, k])])
    return calls


def on_house(method, acts, *arguments):
    """What a method of a house tells, and the house then, behind some acts of which the last one is undone."""
    house = House(money(), (0, 0, 2))
    house.keep("here")
    house.tried([*acts, ("nail", "split")])
    house.undo()
    return [getattr(house, method)(*arguments), house]


def house_calls():
    """Calls of stage 10, likewise."""
    calls = []
    script = [("split", 1), ("change", -1)]
    for function in (plan_after, dues_after, wasted):
        calls.extend([(function, [money(), (2, 2), script]), (function, [money(), (2,), script])])
    for names in (["split"], ["change", "split"], [], ["cent"], [["split"]]):
        calls.append((free_account, [money(), (0, 2, 2), (10, 0, 2), names]))
    states = [
        (money(), (0, 0, 2), (), (10, 2, 0), (2, 2)), (money(), (0, 2, 0), ("split",), None, None),
        (there_and_back(), (1, 0), (), (1, 0), (0, 0)), (Book([], []), (), (), None, None),
    ]
    goal = ("goal", (0, 2, 1))
    acts = [
        ("do", "split", 1), ("nail", "change"), ("free", "split"), goal, ("goal", None), ("bring", (1, 2, 3)),
        ("fetch", (0, 0, 1)), ("add", "swap", (-3, 0, 1)), ("drop", "change"), ("good", "penny"), ("lose", "cent"),
        ("add", "swap", [-3, 0, 1]), ["do", "split", 1], ("bring", [1, 2, 3]),
    ]
    for value in [*anything(), *acts]:
        for state in states:
            calls.extend([(function, [state, value]) for function in (act_word, state_after, is_good_act)])
        calls.extend([(House, [money(), value]), (lambda a, b: House(*a) == b, [[money(), (0, 0, 2)], value])])
        for method in ("do", "keep", "marked", "due_to", "left_cost"):
            calls.append((on_house, [method, [goal], value]))
        for method in ("tried", "would"):
            calls.append((on_house, [method, [goal], [("good", "penny"), value]]))
    for method in (
        "book", "stock", "goal", "plan", "nails", "state", "undo", "redo", "done", "undone", "paid", "due", "waste",
        "left", "way", "next_deeds", "marks", "twin",
    ):
        for before in ([], [goal], [goal, ("add", "swap", (-3, 0, 1))]):
            calls.append((on_house, [method, before]))
    calls.extend([(on_house, ["tried", [goal], []]), (on_house, ["would", [goal], []])])
    calls.extend([(on_house, ["left_cost", [goal], [1, 2]]), (on_house, ["marked", [goal], "here"])])
    for line in ("show", "way", "goal (0, 2, 1)", "square", "to here", "undo", "keep a", "[", "forward change"):
        calls.append((lambda b, text: Console(House(b, (0, 0, 2))).say(text), [money(), line]))
    return calls


class AllFunctions(unittest.TestCase):
    @staticmethod
    def calls():
        early = book_calls() + tree_calls() + account_calls() + deed_calls() + carry_calls()
        late = change_calls() + series_calls() + lot_calls() + house_calls()
        return early + order_calls() + weight_calls() + late

    def test_arguments_are_not_modified(self):
        for function, arguments in self.calls():
            before = frozen(arguments)
            outcome(function, arguments)
            self.assertEqual(frozen(arguments), before, function)

    def test_repeated_calls_return_or_raise_the_same(self):
        for (function, arguments), (_, anew) in zip(self.calls(), self.calls()):
            first = outcome(function, arguments)
            self.assertEqual(outcome(function, arguments), first, (function, arguments))
            self.assertEqual(outcome(function, anew), first, (function, arguments))

    def test_returned_lists_and_dicts_are_new(self):
        for function, arguments in self.calls():
            try:
                values = [function(*arguments) for _ in range(2)]
            except (BarterError, NameMissing):
                continue
            found = [one for value in values for one in inner_lists(value)]
            self.assertEqual(len({id(one) for one in found}), len(found), (function, arguments))
            passed = {id(one) for one in inner_lists(arguments)}
            self.assertFalse([one for one in found if id(one) in passed], (function, arguments))

    def test_returned_values_are_plain(self):
        def check(value):
            if not isinstance(value, (Book, House)):
                self.assertIn(type(value), (bool, int, str, list, tuple, type(None)))
            if isinstance(value, (list, tuple)):
                for member in value:
                    check(member)

        for function, arguments in self.calls():
            try:
                check(function(*arguments))
            except (BarterError, NameMissing):
                continue

    def test_nothing_that_was_passed_is_kept(self):
        for function, arguments in self.calls():
            arguments = [copy.deepcopy(one) if isinstance(one, list) else one for one in arguments]
            try:
                value = function(*arguments)
            except (BarterError, NameMissing):
                continue
            before = frozen(value)
            for one in inner_lists([one for one in arguments if isinstance(one, list)]):
                one.clear()
            self.assertEqual(frozen(value), before, function)

    def test_a_tuple_may_be_passed_for_a_list(self):
        self.assertEqual(Book(("a", "b"), (("p", (-1, 1)),)), Book(["a", "b"], [("p", (-1, 1))]))
        for function, names in ((turned_book, ["pack", "change"]), (part_book, ["bag", "note"])):
            self.assertEqual(function(coins(), tuple(names)), function(coins(), names))
        script = [("p", 1), ("p", 1), ("p", 1), ("q", 1)]
        for function in (stocks_along, walked, script_back, first_bad):
            self.assertEqual(function(pair(), (7, 0, 0), tuple(script)), function(pair(), (7, 0, 0), script))
        self.assertEqual(script_text(tuple(script)), script_text(script))
        self.assertEqual(price(pair(), (1, 5), tuple(script)), price(pair(), [1, 5], script))
        self.assertEqual(cost(three(), (3, 1), (5, 2)), cost(three(), (3, 1), [5, 2]))
        self.assertEqual(least_cost(money(), (0, 0, 2), (10, 2, 0), (3, 0)), 6)
        for function in (cheapest_by_walks, cheapest_walk):
            ends = (0, 0, 2), (10, 2, 0)
            self.assertEqual(function(money(), *ends, (3, 1)), function(money(), *ends, [3, 1]))
        self.assertIs(judge_run(there_and_back(), (1, 0), (1, 1), ("carried", (("p", 1), ("q", 1)))), True)
        self.assertEqual(nearest_stock(money(), (0, 0, 2), ((10, 2, 0), (0, 4, 0))), 1)
        order = ["split", "change", "split", "change"]
        for function in (judge_order, order_script, order_number, next_order, orders_beginning):
            case = money(), (0, 0, 2), (2, 2)
            self.assertEqual(function(*case, tuple(order)), function(*case, order))
        coined = [("penny", None), ("dime", 10)]
        for function in (book_of_coins, coins_tree):
            self.assertEqual(function(tuple(coined)), function(coined))
        boxed = [("a", None), ("b", (("a", 2),))]
        for function in (book_of_boxes, boxes_tree):
            self.assertEqual(function(tuple(boxed)), function(boxed))
        self.assertEqual(stock_series((4, 6, 5), 12), stock_series([4, 6, 5], 12))
        self.assertEqual(lot_series(three_twos(), (4, 6, 5), 12), lot_series(three_twos(), [4, 6, 5], 12))
        self.assertEqual(mirror(three_twos(), (4, 6, 5)), mirror(three_twos(), [4, 6, 5]))
        self.assertEqual(lots_at(three_twos(), (4, 6, 5), 12), lots_at(three_twos(), [4, 6, 5], 12))
        for function in (plan_after, dues_after, wasted):
            self.assertEqual(function(money(), (2, 2), (("split", 1),)), function(money(), (2, 2), [("split", 1)]))
        self.assertEqual(free_account(money(), (0, 2, 2), (10, 0, 2), ("split",)), (0, 2))
        house = House(money(), (0, 0, 2))
        self.assertEqual(house.tried((("goal", (10, 2, 0)), ("do", "split", 1))), 2)
        self.assertEqual(house.would((("do", "split", 1),))[1], (0, 4, 0))
        self.assertEqual(house.left_cost((3, 1)), 5)

    def test_a_list_is_not_taken_for_a_tuple(self):
        for goods, barters in (
            (["a", "b"], [["p", (-1, 1)]]), (["a", "b"], [("p", [-1, 1])]), ([["a"], "b"], []), ([("a",), "b"], []),
        ):
            with self.assertRaises(BadBook):
                Book(goods, barters)
        self.assertIs(judge_chain(letters(), ["a", "p", "b"]), False)
        self.assertIs(judge_round(ring(2), ["g0", "n0", "g1", "n1"]), False)
        self.assertIs(judge_square(ring(2), [("n0", "n1"), ("g0", "g1")]), False)
        self.assertIs(judge_square(ring(2), (["n0", "n1"], ["g0", "g1"])), False)
        self.assertIs(judge_tree(Book(["a", "b"], []), ["a", "b", None]), False)
        self.assertIs(is_fraction([1, 2]), False)
        self.assertIs(is_stock(pair(), [7, 0, 0]), False)
        self.assertIs(is_deed(pair(), (7, 0, 0), ["p", 1]), False)
        self.assertEqual(first_bad(pair(), (7, 0, 0), [("p", 1), ["p", 1]]), 1)
        self.assertIs(judge_account(three(), (7, 0, 0), (1, 0, 1), [3, 1]), False)
        self.assertIs(judge_no_account(three(), (2, 0, 0), (1, 2, 0), [(1, 2), (0, 1), (0, 1)]), False)
        self.assertIs(judge_run(there_and_back(), (0, 0), (1, 1), ("stuck", [], [("p", "a"), ("q", "b")])), False)
        self.assertIs(is_moment(money(), (0, 0, 2), (2, 2), [1, 1]), False)
        self.assertIs(is_keeper(three(), [1, 2, 6]), False)
        self.assertIs(judge_weights(three(), [1, 2, 6]), False)
        self.assertIs(judge_good_paper(three(), "a", ["kept", (1, 2, 6)]), False)
        self.assertIs(judge_put(three(), "new", (-1, 0, 1), ["chain", ("c", "q", "b", "p", "a")]), False)
        self.assertIs(judge_mirror_paper(three_twos(), (2, 1, -2), ["here", (0, 1)]), False)
        self.assertIs(judge_mirror_paper(three_twos(), (2, 1, -2), ("here", [0, 1])), False)
        for act in (["do", "split", 1], ("goal", [10, 2, 0]), ("add", "swap", [-3, 0, 1]), ("bring", [0, 0, 0])):
            with self.assertRaises(BadAct):
                House(money(), (0, 0, 2)).do(act)
        for function, value in (
            (book_of_boxes, [["a", None]]), (coins_tree, [["a", None]]), (book_of_tree, ["a", "b", None]),
        ):
            with self.assertRaises(BadMade):
                function(value)
        for function in (leaves, forks):
            for value, path in ((["a", "b", None], ()), ((["a", "b", None], "c", None), (0,)), ([], ())):
                with self.assertRaises(BadTree) as caught:
                    function(value)
                self.assertEqual(caught.exception.path, path)

    def test_true_and_false_are_no_numbers(self):
        for value in (True, False):
            self.assertIs(is_integer(value), False)
            self.assertIs(is_number(value), False)
            self.assertIs(is_fraction((value, 1)), False)
            self.assertIs(is_fraction((2, value)), False)
            self.assertIs(is_stock(pair(), (7, value, 0)), False)
            self.assertIs(is_deed(pair(), (7, 7, 7), ("p", value)), False)
            self.assertIs(judge_account(three(), (0, 0, 0), (0, 0, 0), (0, value)), False)
            self.assertIs(is_moment(money(), (0, 2, 2), (2, 2), (1, value)), False)
            self.assertIs(is_keeper(Book(["a", "b"], []), (1, value)), False)
            self.assertIs(judge_weights(Book(["a", "b"], []), (1, value)), False)
            self.assertIs(judge_pump(Book(["a", "b"], [("u", (-1, 2)), ("v", (2, -1))]), (2, value)), False)
            self.assertIs(judge_no_account(three(), (2, 0, 0), (1, 2, 0), ((1, 2), (0, 1), (value, 1))), False)
            self.assertIs(judge_mirror_paper(three_twos(), (0, 0, 0), ("here", (0, value))), False)
            for function in (book_of_coins, coins_tree):
                with self.assertRaises(BadMade):
                    function([("a", None), ("b", value)])
            for act in (("do", "split", value), ("goal", (10, 2, value)), ("bring", (0, 0, value))):
                self.assertIsNotNone(act_word((money(), (0, 0, 2), (), None, None), act))
            with self.assertRaises(BadBook) as caught:
                Book(["a", "b", "c"], [("p", (-1, 1, value))])
            self.assertEqual(caught.exception.path, (1, 0, 1, 2))

    def test_truth_is_told_as_true_or_false(self):
        book = letters()
        for value in (
            is_word("a"), is_integer(0), is_number(0), is_good_book(book), is_balance(book, (0,) * 5),
            judge_tree(book, tree_of(book)), judge_chain(book, ("a",)), judge_square(ring(2), square_of(ring(2))),
            judge_round(ring(2), round_of(ring(2))), is_fraction((0, 1)), book == letters(),
            judge_account(three(), (7, 0, 0), (1, 0, 1), (3, 1)), is_stock(pair(), (7, 0, 0)),
            judge_no_account(three(), (2, 0, 0), (1, 2, 0), ((1, 2), (0, 1), (0, 1))),
            is_deed(pair(), (7, 0, 0), ("p", 1)), is_idle(pair(), (1, 0, 0)),
            begins(money(), (0, 0, 2), (10, 2, 0), ("split", 1)),
            judge_run(there_and_back(), (1, 0), (1, 1), ("carried", [("p", 1), ("q", 1)])),
            is_between(money(), (0, 0, 2), (5, 1, 1), (10, 2, 0)), is_moment(money(), (0, 0, 2), (2, 2), (1, 1)),
            is_ample(money(), (0, 2, 2), (2, 2)), is_keeper(three(), (1, 2, 6)), judge_weights(three(), (1, 2, 6)),
            judge_pump(Book(["a", "b"], [("u", (-1, 2)), ("v", (2, -1))]), (2, 1)),
            judge_good_paper(three(), "a", ("kept", (1, 2, 6))), judge_breaking(ring(2), breaking(ring(2))),
            are_free(Book(["a", "b"], []), "a", "b"), can_put(Book(["a", "b"], []), (1, -1)),
            judge_put(three(), "new", (-1, 0, 1), ("chain", ("c", "q", "b", "p", "a"))),
            judge_mirror_paper(three_twos(), (2, 1, -2), ("here", (0, 1))),
            is_one_lot(three_twos(), (2, 1, 0), (1, 0, 2)), House(money(), (0, 0, 2)) == House(money(), (0, 0, 2)),
            is_good_act((money(), (0, 0, 2), (), None, None), ("do", "split", 1)),
        ):
            self.assertIs(value, True)


if __name__ == "__main__":
    unittest.main()
