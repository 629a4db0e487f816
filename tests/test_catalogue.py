"""Point [36], and the heading raytrain/catalogue.py of the interface."""

import copy
import itertools
import random
import unittest

from raytrain.catalogue import shortest_train
from raytrain.equivalence import are_equivalent
from raytrain.texts import parse_train
from tests.helper import HUGE, WIDE
from tests.samples import small_element

STOCKS = [
    "gap 1; lens 1; stop from -1 to 1",
    "gap 1; gap -1; stop to 1; stop from -1",
    "afocal -1; stop to 1; prism 1",
    "stop from 0; stop to 0; gap 1; afocal 2",
    "stop from 1 to 1; gap 1; lens 2; prism -1",
    "gap 0; gap 2; gap 1; lens 0",
]


def rows_of(stock, most):
    """Return all rows of indexes with at most so many, the shortest first, and in order."""
    return [list(row) for many in range(most + 1) for row in itertools.product(range(len(stock)), repeat=many)]


def told_shortest(stock, train, most):
    """Return the first row that acts like a train, by trying all, or None."""
    for row in rows_of(stock, most):
        if are_equivalent([stock[index] for index in row], train):
            return row
    return None


class Shortest(unittest.TestCase):
    def check(self, stock, text, most, expected):
        with self.subTest(stock=stock, text=text, most=most):
            self.assertEqual(shortest_train(parse_train(stock), parse_train(text), most), expected)

    def test_told_rows(self):
        self.check("gap 1", "gap 3", 5, [0, 0, 0])
        self.check("lens 1; gap 1; stop from -1 to 1", "gap 1; lens 1; gap 1", 3, [0, 1, 0])
        self.check("lens 2; gap 1; stop from -1 to 1", "gap 1; lens 2; gap 1", 3, [1, 0, 1])
        self.check("lens 1; gap 1; stop from -1 to 1", "lens 3; gap 2; stop from -1 to 1", 9, [0, 0, 0, 1, 1, 2])

    def test_the_shortest_one(self):
        self.check("gap 1; gap 2; gap 3", "gap 3", 5, [2])
        self.check("gap 1; gap 2; gap 4", "gap 6", 5, [1, 2])
        self.check("gap -1; gap 3; gap 5", "gap 1", 5, [0, 0, 1])
        self.check("gap -1; gap 3; gap 2", "gap 1", 5, [0, 2])

    def test_the_first_one_by_the_indexes(self):
        self.check("gap 2; gap 1", "gap 3", 5, [0, 1])
        self.check("gap 1; gap 2", "gap 3", 5, [0, 1])
        self.check("gap 1; gap 1", "gap 2", 5, [0, 0])
        self.check("gap 2; gap 1; gap 3; gap 0", "gap 4", 5, [0, 0])
        self.check("prism 1; stop to 5; prism 2", "stop to 5; prism 3", 5, [0, 1, 2])
        self.check("lens 3; gap 7; lens 3", "lens 3; gap 7; lens 3", 5, [0, 1, 0])

    def test_as_many_as_told(self):
        self.check("gap 1", "gap 3", 3, [0, 0, 0])
        self.check("gap 1", "gap 3", 2, None)
        self.check("gap 1", "gap 3", 0, None)
        self.check("gap 3", "gap 3", 1, [0])
        self.check("gap 3", "gap 3", 0, None)

    def test_without_elements(self):
        self.check("gap 1; lens 1", "", 0, [])
        self.check("gap 1; lens 1", "", 4, [])
        self.check("gap 0; lens 1", "", 4, [])
        self.check("gap 1", "gap 1; gap -1; stop; lens 0", 4, [])
        self.check("", "", 0, [])
        self.check("", "", 7, [])
        self.check("", "gap 2; gap -2", 7, [])
        self.check("", "gap 1", 7, None)
        self.check("", "stop to 1", 0, None)

    def test_no_row_acts_like_it(self):
        self.check("gap 2; gap -2", "gap 1", 6, None)
        self.check("gap 1; lens 1", "stop to 1", 5, None)
        self.check("stop to 1", "stop from 1", 5, None)
        self.check("stop to 1; gap 1", "stop to 1; prism 1", 5, None)
        self.check("stop to 1; stop to 3", "stop to 2", 5, None)

    def test_stops_that_act_together(self):
        self.check("stop from -1; stop to 2; gap 1; gap -1", "stop from -1 to 2", 4, [0, 1])
        self.check("stop from -1 to 9; stop from -8 to 2; gap 1", "stop from -1 to 2; gap 1", 4, [0, 1, 2])
        self.check("stop to 2; stop to 1", "stop to 1; stop to 2", 4, [1])
        self.check("gap 1; stop to 1; afocal -1", "stop from -1 to 1", 4, [1, 2, 1, 2])

    def test_where_only_few_rays_pass(self):
        # Behind the stop at 0 a lens does nothing.
        self.check("lens 1; stop from 0 to 0; gap 1", "stop from 0 to 0; lens 7", 4, [1])
        self.check("lens 1; stop from 0 to 0; gap 1", "lens 5; stop from 0 to 0", 4, [1])
        self.check("lens 1; stop from 0 to 0; gap 1", "lens 5 at 1; stop from 0 to 0", 4, None)
        self.check("stop to 0; stop from 1; gap 1", "stop from 5; gap 3; stop to 9; gap -3; stop to 4", 4, [0, 1])
        self.check("gap 2; stop to 0; stop from 1", "stop from 5; stop to 4; lens 3", 4, [1, 2])
        self.check("stop from 1 to 1; gap 1; prism 2; prism -2", "stop from 1 to 1; gap 1; stop from 3 to 3; gap 1", 6,
                   None)
        self.check("stop from 1 to 1; gap 1; stop from 3 to 3", "gap 1; stop from 3 to 3; gap 1; stop from 1 to 1", 6,
                   [1, 2, 1, 0])

    def test_wide_numbers(self):
        stock = [("gap", (HUGE, WIDE)), ("stop", (-1, HUGE), (WIDE, 1)), ("lens", (WIDE, 1), (1, HUGE))]
        for row in ([0, 1, 2], [1, 1, 0], [2, 0, 1, 0]):
            train = [stock[index] for index in row]
            self.assertEqual(shortest_train(stock, train, 4), [1, 0] if row == [1, 1, 0] else row)

    def test_as_reckoned_by_trying_all(self):
        chance = random.Random(361)
        lengths = set()
        for text in STOCKS:
            stock = parse_train(text)
            for _ in range(14):
                row = [chance.choice(stock) for _ in range(chance.randint(0, 4))]
                train = row if chance.random() < 0.8 else row + [small_element(chance)]
                for most in (2, 3):
                    found = shortest_train(stock, train, most)
                    self.assertEqual(found, told_shortest(stock, train, most), (text, train, most))
                    lengths.add(found if found is None else len(found))
        self.assertEqual(lengths, {None, 0, 1, 2, 3})

    def test_a_longer_limit_changes_nothing(self):
        for text in STOCKS:
            stock = parse_train(text)
            for row in rows_of(stock, 2):
                train = [stock[index] for index in row]
                self.assertEqual(shortest_train(stock, train, 2), shortest_train(stock, train, 6))

    def test_many_rows(self):
        stock = parse_train("gap 1; lens 1; stop from -3 to 3; prism 1")
        row = [0, 1, 0, 1, 2, 0, 3, 1]
        train = [stock[index] for index in row]
        found = shortest_train(stock, train, 8)
        self.assertTrue(are_equivalent([stock[index] for index in found], train))
        self.assertEqual(len(found), 8)
        self.assertLessEqual(found, row)
        self.check("gap 1; lens 1; stop from -3 to 3; prism 1", "lens 1000; stop from -3 to 3", 6, None)


class Values(unittest.TestCase):
    def test_nothing_passed_in_is_changed(self):
        for text in STOCKS:
            stock = parse_train(text)
            train = [stock[0], stock[1], stock[0]]
            before = copy.deepcopy((stock, train))
            first = shortest_train(stock, train, 3)
            self.assertIsInstance(first, list)
            self.assertEqual((stock, train), before)
            shortest_train(stock, train, 3).append(7)
            shortest_train(stock, [], 3).append(7)
            self.assertEqual(shortest_train(stock, train, 3), first)
            self.assertEqual(shortest_train(stock, [], 3), [])


if __name__ == "__main__":
    unittest.main()
