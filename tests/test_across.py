"""What the document promises across its parts, for one book at a time ([0.1], [S5.2], [S5.5], [S6], [S9.1], [S10.6])."""

import random
import unittest

from eitherbarter.accounts import account_of, cost, judge_account, judge_no_account, no_account_row
from eitherbarter.acts import state_after
from eitherbarter.between import all_between, count_between, is_between
from eitherbarter.books import with_barter
from eitherbarter.booktexts import book_text, read_book
from eitherbarter.breaking import breaking, judge_breaking
from eitherbarter.carrying import fewest_deeds, judge_way, least_cost, next_deeds, run_of, way
from eitherbarter.changes import can_put, put_paper
from eitherbarter.console import Console
from eitherbarter.goals import dues_after, free_account, plan_after, wasted
from eitherbarter.house import House
from eitherbarter.lotnumbers import lot_number, lots_from
from eitherbarter.lots import first_stock, is_one_lot, lot_of, lots_at
from eitherbarter.makers import book_of_tree, numbered_form
from eitherbarter.mirrors import account_to_stock
from eitherbarter.moments import all_moments, is_ample, stock_at
from eitherbarter.orders import count_orders, order_at, order_script
from eitherbarter.plainwalks import cheapest_by_walks, lot_by_walks, within
from eitherbarter.pumps import pump_of
from eitherbarter.scripts import script_back, walked
from eitherbarter.series import lot_series
from eitherbarter.squares import is_good_book, judge_square, square_of
from eitherbarter.trees import judge_tree, tree_of
from eitherbarter.weights import judge_weights, tree_weights, weight, weights_of
from tests.helpers import (
    drawn_books, drawn_carry, drawn_good_book, drawn_row, least_stock, money, plain_balance, plain_is_good, plain_met,
    plus, there_and_back,
)


class GoodBooks(unittest.TestCase):
    def cases(self, seed, many, deeds=12):
        """Good books, each with two stocks and the account between them."""
        rng = random.Random(seed)
        return [drawn_carry(rng, rng.randint(2, 5), rng.randint(0, deeds), 3, rng.randint(0, 1)) for _ in range(many)]

    def test_ways_accounts_and_orders(self):
        for book, f, account, g in self.cases(391, 60, 9):
            self.assertEqual(account_of(book, f, g), account)
            script = way(book, f, g)
            self.assertIsNone(judge_way(book, f, g, script))
            self.assertEqual(run_of(book, f, account)[0], "carried")
            many = count_orders(book, f, account)
            for number in {0, many // 2, many - 1}:
                order = order_at(book, f, account, number)
                self.assertIsNone(judge_way(book, f, g, order_script(book, f, account, order)))
            back = script_back(book, f, script)
            self.assertIsNone(judge_way(book, g, f, back))
            turned = tuple(-number for number in account)
            self.assertEqual(count_orders(book, g, turned), many)
            if script and many <= 200:
                orders = [order_at(book, f, account, number) for number in range(many)]
                firsts = {order_script(book, f, account, order)[0] for order in orders}
                self.assertEqual(firsts, set(next_deeds(book, f, g)))

    def test_stocks_between_and_moments(self):
        for book, f, account, g in self.cases(392, 60, 8):
            between = all_between(book, f, g)
            self.assertEqual(len(between), count_between(book, f, g))
            at_moments = [stock_at(book, f, account, moment) for moment in all_moments(book, f, account)]
            self.assertEqual(sorted(at_moments), sorted(between))
            whole = fewest_deeds(book, f, g)
            for h in between:
                self.assertIs(is_between(book, f, h, g), True)
                self.assertEqual(fewest_deeds(book, f, h) + fewest_deeds(book, h, g), whole)
                self.assertIs(is_one_lot(book, f, h), True)
            if is_ample(book, f, account):
                many = 1
                for number in account:
                    many *= abs(number) + 1
                self.assertEqual(len(between), many)

    def test_what_a_way_costs(self):
        rng = random.Random(393)
        compared = 0
        for book, f, account, g in self.cases(394, 60, 6):
            if plain_met(book, f, bound=400) is None:
                continue
            prices = [rng.randint(0, 9) for _ in account]
            self.assertEqual(cheapest_by_walks(book, f, g, prices), least_cost(book, f, g, prices))
            self.assertEqual(cost(book, account, prices), least_cost(book, f, g, prices))
            house = House(book, f)
            house.do(("goal", g))
            self.assertEqual(house.left_cost(prices), least_cost(book, f, g, prices))
            compared += 1
        self.assertGreater(compared, 20)

    def test_lots_accounts_and_weights(self):
        rng = random.Random(395)
        compared = 0
        for book, f, _, g in self.cases(396, 80, 6):
            weights = weights_of(book)
            self.assertEqual(weight(book, f, weights), weight(book, g, weights))
            self.assertIs(judge_weights(book, tree_weights(book, tree_of(book))), True)
            self.assertIsNone(pump_of(book))
            if plain_met(book, f, bound=500) is None:
                continue
            compared += 1
            lot = lot_of(book, f)
            self.assertEqual(lot, lot_by_walks(book, f))
            self.assertEqual(lot, sorted(stock for stock, _ in within(book, f, 10 ** 4)))
            self.assertIn(g, lot)
            self.assertEqual((first_stock(book, f), first_stock(book, g)), (lot[0], lot[0]))
            for stock in rng.sample(lot, min(4, len(lot))):
                self.assertIs(judge_account(book, f, stock, account_of(book, f, stock)), True)
                self.assertEqual(walked(book, f, way(book, f, stock)), stock)
            other = plus(f, (1,) + (0,) * (len(f) - 1))
            self.assertNotIn(other, lot)
            self.assertIs(judge_no_account(book, f, other, no_account_row(book, f, other)), True)
        self.assertGreater(compared, 30)

    def test_lots_of_one_weight(self):
        rng = random.Random(397)
        for _ in range(30):
            book, tree = drawn_good_book(rng, rng.randint(2, 4), 1.0, 2)
            weights = tree_weights(book, tree)
            series = lot_series(book, weights, 20)
            for number in range(21):
                firsts = lots_at(book, weights, number)
                self.assertEqual(len(firsts), series[number])
                self.assertEqual(lots_from(book, weights, number, many=50), firsts[:50])
                for k, one in enumerate(firsts):
                    self.assertEqual(first_stock(book, one), one)
                    self.assertEqual(lot_number(book, weights, one), k)
                    self.assertEqual([other for other in firsts if is_one_lot(book, one, other)], [one])
                    lesser = plus(one, (0,) * (len(one) - 1) + (1,), -1)
                    account = account_to_stock(book, lesser)
                    self.assertEqual(account is not None, any(stock[-1] > 0 for stock in lot_of(book, one)))

    def test_texts_and_numbered_forms(self):
        rng = random.Random(398)
        for _ in range(30):
            book, _ = drawn_good_book(rng, rng.randint(2, 8), 0.8, 9)
            made = book_of_tree(numbered_form(read_book(book_text(book))))
            self.assertIs(is_good_book(made), True)
            self.assertEqual(sorted(made.goods()), sorted(book.goods()))
            weights = dict(zip(book.goods(), weights_of(book)))
            self.assertIs(judge_weights(made, tuple(weights[good] for good in made.goods())), True)


class AllBooks(unittest.TestCase):
    def test_good_or_bad(self):
        for book in drawn_books(399, 120):
            good = plain_is_good(book)
            self.assertIs(is_good_book(book), good)
            self.assertEqual(breaking(book) is None, good)
            if good:
                self.assertIs(judge_tree(book, tree_of(book)), True)
            else:
                self.assertIs(judge_square(book, square_of(book)), True)
                square, f, g, account = breaking(book)
                self.assertIs(judge_breaking(book, (square, f, g, account)), True)
                self.assertEqual(run_of(book, f, account)[:2], ("stuck", []))
                # The same on paper: there is an account, so there is no row that tells that there is none.
                self.assertIsNone(no_account_row(book, f, g))

    def test_each_account_of_a_good_book_is_carried_out(self):
        rng = random.Random(400)
        for book in drawn_books(401, 80):
            account = tuple(rng.randint(-3, 3) for _ in book.names())
            f = least_stock(book, account)
            run = run_of(book, f, account)
            if plain_is_good(book):
                self.assertEqual(run[0], "carried")
            if run[0] == "carried":
                self.assertEqual(walked(book, f, run[1]), plus(f, plain_balance(book, account)))
            else:
                names, goods = [name for name, _ in run[2]], [good for _, good in run[2]]
                self.assertIs(judge_square(book, (tuple(names), tuple(goods))), True)


class HousesOfOneBook(unittest.TestCase):
    def test_houses_ways_and_plans(self):
        rng = random.Random(402)
        for _ in range(50):
            book, f, account, g = drawn_carry(rng, rng.randint(2, 6), rng.randint(0, 25), 4, rng.randint(0, 1))
            house = House(book, f)
            house.keep("begin")
            house.do(("goal", g))
            self.assertEqual(house.plan(), account)
            self.assertEqual(house.plan(), free_account(book, f, g, []))
            self.assertEqual(house.way() == [], f == g)
            script = []
            while house.left():
                script.append(rng.choice(house.next_deeds()))
                self.assertIn(script[-1], next_deeds(book, house.stock(), g))
                self.assertIs(is_between(book, f, house.stock(), g), True)
                house.do(("do", *script[-1]))
                self.assertEqual(house.plan(), plan_after(book, account, script))
                self.assertEqual(house.due(), dues_after(book, account, script)[-1])
                self.assertEqual(house.waste(), wasted(book, account, script))
                self.assertEqual(house.due_to("begin"), len(script))
            self.assertIsNone(judge_way(book, f, g, script))
            self.assertEqual(walked(book, f, script), house.stock())
            self.assertEqual(house.paid(), fewest_deeds(book, f, g))

    def test_good_acts_and_papers(self):
        rng = random.Random(403)
        found = {True: 0, False: 0}
        for _ in range(60):
            book, _ = drawn_good_book(rng, rng.randint(2, 5), 0.5, 3)
            row = drawn_row(rng, len(book.goods()), 0.5, 3)
            house = House(book, (1,) * len(book.goods()))
            house.do(("goal", house.stock()))
            house.do(("add", "new", row))
            self.assertEqual(house.book(), with_barter(book, "new", row))
            stays = can_put(book, row)
            found[stays] += 1
            self.assertEqual(put_paper(book, "new", row)[0] == "tree", stays)
            self.assertEqual(house.left() is None, not stays)
            self.assertEqual(Console(house).say("square") == "none", stays)
            self.assertEqual(state_after(house.state(), ("drop", "new"))[0], book)
        self.assertGreater(min(found.values()), 10)

    def test_in_a_bad_book_nothing_is_told_of_a_way(self):
        house = House(there_and_back(), (0, 0))
        house.do(("goal", (0, 0)))
        self.assertEqual((house.due(), house.left(), Console(house).say("way")), (0, None, "none"))
        house.do(("drop", "p"))
        self.assertEqual((house.due(), house.left(), Console(house).say("way")), (0, 0, ""))

    def test_the_house_of_the_examples_along_all_stocks_between(self):
        book, f, g = money(), (0, 0, 2), (10, 2, 0)
        for h in all_between(book, f, g):
            house = House(book, f)
            house.do(("goal", h))
            house.tried([("do", *deed) for deed in house.way()])
            self.assertEqual(house.stock(), h)
            house.do(("goal", g))
            self.assertEqual(house.left() + house.paid(), 4)


if __name__ == "__main__":
    unittest.main()
