"""The interface: each name is defined in the file under which it is listed."""

import importlib
import inspect
import unittest

LISTED = {
    "words": {"is_word": 1, "is_integer": 1, "is_number": 1},
    "books": {
        "Book": 2, "turned_book": 2, "part_book": 2, "with_barter": 3, "without_barter": 2, "book_pieces": 1,
        "joined_books": 2,
    },
    "lexemes": {"lexemes": 1},
    "booktexts": {"book_text": 1, "read_book": 1},
    "chains": {
        "links_of": 1, "linking": 3, "chain_between": 3, "judge_chain": 2, "round_of": 1, "judge_round": 2,
    },
    "squares": {"square_of": 1, "judge_square": 2, "is_good_book": 1, "all_squares": 1},
    "trees": {"tree_of": 1, "judge_tree": 2, "leaves": 1, "forks": 1},
    "fractions": {"lowest": 2, "added": 2, "times": 2, "is_fraction": 1, "row_sum": 2},
    "solving": {"stairs": 1, "idle_stairs": 1, "rest": 2, "is_balance": 2},
    "accounts": {
        "balance": 2, "account_of": 3, "judge_account": 4, "no_account_row": 3, "judge_no_account": 4, "reduced": 2,
        "cost": 3, "account_deeds": 2, "cancels_at": 3,
    },
    "stocks": {"is_stock": 2, "check_stock": 2, "stock_text": 2, "read_stock": 2},
    "deeds": {"is_deed": 3, "done": 3, "deed_back": 3, "all_deeds": 2, "is_idle": 2},
    "scripts": {
        "stocks_along": 3, "walked": 3, "script_back": 3, "first_bad": 3, "price": 3, "script_text": 1,
        "read_script": 1,
    },
    "plainwalks": {
        "within": 3, "lot_by_walks": 2, "fewest_by_walks": 4, "walk_by_walks": 4, "cheapest_by_walks": 4,
        "cheapest_walk": 4,
    },
    "carrying": {
        "way": 3, "fewest_deeds": 3, "least_cost": 4, "next_deeds": 3, "last_deeds": 3, "change_of": 4, "begins": 4,
        "judge_way": 4, "run_of": 3, "judge_run": 4,
    },
    "between": {"is_between": 4, "all_between": 3, "count_between": 3, "nearest_stock": 3},
    "moments": {"stock_at": 4, "is_moment": 4, "all_moments": 3, "next_names": 4, "is_ample": 3, "needed": 3},
    "orders": {
        "judge_order": 4, "any_order": 3, "order_script": 4, "count_orders": 3, "order_at": 4, "order_number": 4,
        "next_order": 4, "drawn_order": 4, "orders_beginning": 4,
    },
    "weights": {
        "weight": 3, "is_keeper": 2, "least_keepers": 1, "weights_of": 1, "judge_weights": 2, "tree_weights": 2,
    },
    "pumps": {
        "least_gains": 1, "pump_of": 1, "judge_pump": 2, "kept_goods": 1, "pumped_goods": 1, "great_pump": 1,
        "good_paper": 2, "judge_good_paper": 3,
    },
    "breaking": {"breaking": 1, "judge_breaking": 2},
    "changes": {"are_free": 3, "free_pairs": 1, "can_put": 2, "put_paper": 3, "judge_put": 4},
    "makers": {
        "book_of_boxes": 1, "boxes_tree": 1, "book_of_coins": 1, "coins_tree": 1, "book_of_tree": 1, "plain_tree": 1,
        "numbered_form": 1, "bridged_books": 3,
    },
    "series": {"stock_series": 2, "lot_series": 3, "mirror": 2},
    "mirrors": {"account_to_stock": 2, "mirror_row": 1, "mirror_paper": 2, "judge_mirror_paper": 3},
    "lots": {"is_one_lot": 3, "lot_of": 2, "first_stock": 2, "lots_at": 3},
    "lotnumbers": {"lot_at": 4, "lot_number": 3, "next_lot": 3, "lots_from": 5, "drawn_lot": 4},
    "goals": {"plan_after": 3, "dues_after": 3, "wasted": 3, "free_account": 4},
    "acts": {"act_word": 2, "state_after": 2, "is_good_act": 2},
    "house": {"House": 2},
    "console": {"Console": 1},
}
BOOK_METHODS = {
    "goods": 0, "barters": 0, "names": 0, "row": 1, "takes": 1, "gives": 1, "good_number": 1, "barter_number": 1,
    "__eq__": 1,
}
HOUSE_METHODS = {
    "book": 0, "stock": 0, "goal": 0, "plan": 0, "nails": 0, "state": 0, "do": 1, "undo": 0, "redo": 0, "done": 0,
    "undone": 0, "tried": 1, "would": 1, "paid": 0, "due": 0, "waste": 0, "left": 0, "left_cost": 1, "way": 0,
    "next_deeds": 0, "keep": 1, "marks": 0, "marked": 1, "due_to": 1, "twin": 0, "__eq__": 1,
}
CONSOLE_METHODS = {"house": 0, "say": 1}


class Interface(unittest.TestCase):
    def test_each_name_is_defined_in_its_file(self):
        for file, names in LISTED.items():
            module = importlib.import_module(f"eitherbarter.{file}")
            for name, many in names.items():
                found = getattr(module, name)
                self.assertEqual((found.__module__, found.__name__), (module.__name__, name))
                self.assertEqual(len(inspect.signature(found).parameters), many, name)

    def test_the_methods_of_each_class_are_its_own(self):
        for file, name, methods in (
            ("books", "Book", BOOK_METHODS), ("house", "House", HOUSE_METHODS), ("console", "Console", CONSOLE_METHODS),
        ):
            found = getattr(importlib.import_module(f"eitherbarter.{file}"), name)
            for method, many in methods.items():
                self.assertIn(method, vars(found))
                self.assertEqual(len(inspect.signature(vars(found)[method]).parameters), many + 1, method)


if __name__ == "__main__":
    unittest.main()
