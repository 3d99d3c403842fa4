"""The names and arguments that the interface promises, module by module."""

import importlib
import inspect
import unittest

FUNCTIONS = {
    "grains": ["together(n)", "grains_of(voters, works)", "equal_purse(coins, voters, works)"],
    "towns": [
        "is_town(coins, costs, wishes)", "wanters_of(wishes, work)", "common_of(wishes, works)",
        "cost_of(costs, works)", "purses_of(coins, costs, wishes)",
    ],
    "levels": ["paid_at(purses, level)", "gathered(purses, level)", "level_for(purses, price)"],
    "offers": ["offers_of(purses, costs, wishes, done)", "next_of(offers)"],
    "choosing": [
        "choose(purses, costs, wishes)", "works_of(steps)", "left_of(purses, steps)",
        "bought_by(wishes, steps, voter)",
    ],
    "papers": ["paper_of(purses, costs, wishes, work)", "first_wrong(purses, costs, wishes, steps)"],
    "groups": ["wronged(coins, costs, wishes, works)", "parties_of(costs, wishes)"],
    "filling": ["fill(coins, costs, wishes, works)", "plan_of(coins, costs, wishes)"],
    "texts": ["read_words(row)", "read_number(word)"],
}
CLASSES = {
    ("chests", "Chest"): [
        "enrol(name)", "leave(name)", "give(coins)", "propose(work, cost)", "withdraw(work)", "want(voter, work)",
        "unwant(voter, work)", "close()", "voters()", "works()", "pot()", "given()", "spent()",
    ],
    ("desk", "Desk"): ["say(row)"],
}


def module_of(name):
    return importlib.import_module(f"purse.{name}")


class Interface(unittest.TestCase):
    def check(self, holder, row):
        name = row.partition("(")[0]
        self.assertEqual(name + str(inspect.signature(getattr(holder, name))), row)

    def test_functions(self):
        for name, rows in FUNCTIONS.items():
            for row in rows:
                with self.subTest(module=name, row=row):
                    self.check(module_of(name), row)

    def test_classes(self):
        for (name, kind), rows in CLASSES.items():
            made = getattr(module_of(name), kind)()
            for row in rows:
                with self.subTest(module=name, row=row):
                    self.check(made, row)


if __name__ == "__main__":
    unittest.main()
