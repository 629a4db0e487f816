"""Point [37], and the heading raytrain/bench.py of the interface."""

import copy
import random
import unittest

from raytrain.bench import Bench
from raytrain.errors import NoSuchElement, NoSuchPosition, TrainFull
from raytrain.texts import parse_train

GAP = ("gap", (1, 1))
LENS = ("lens", (2, 1), (1, 3))
STOP = ("stop", (-1, 1), None)
PRISM = ("prism", (-1, 1000000))


class Model:
    """A bench of plain lists, without limits."""

    def __init__(self, train):
        self.trains = [list(train)]

    def change(self, train):
        self.trains.append(train)

    def now(self):
        return list(self.trains[-1])


def random_step(chance, bench, model):
    """Make one random operation on a bench and a model, and return what the bench returned."""
    train = model.now()
    word = chance.choice(["put", "put", "take", "exchange", "undo"])
    element = chance.choice([GAP, LENS, STOP, PRISM])
    if word == "undo" or (word != "put" and not train):
        undone = len(model.trains) > 1
        if undone:
            model.trains.pop()
        return bench.undo() is undone
    if word == "put":
        if len(train) == 20:
            return True
        index = chance.randint(0, len(train))
        model.change(train[:index] + [element] + train[index:])
        return bench.put(index, element) == len(train) + 1
    index = chance.randint(0, len(train) - 1)
    if word == "take":
        model.change(train[:index] + train[index + 1:])
        return bench.take(index) == train[index]
    model.change(train[:index] + [element] + train[index + 1:])
    return bench.exchange(index, element) == train[index]


class Operations(unittest.TestCase):
    def test_a_new_bench(self):
        for train in ([], [GAP], [GAP, LENS, STOP]):
            bench = Bench(train)
            self.assertEqual(bench.train(), train)
            self.assertEqual(bench.operations(), 0)
            self.assertEqual(bench.history(), [])

    def test_put(self):
        bench = Bench([GAP, LENS])
        self.assertEqual(bench.put(0, STOP), 3)
        self.assertEqual(bench.train(), [STOP, GAP, LENS])
        self.assertEqual(bench.put(3, PRISM), 4)
        self.assertEqual(bench.train(), [STOP, GAP, LENS, PRISM])
        self.assertEqual(bench.put(2, PRISM), 5)
        self.assertEqual(bench.train(), [STOP, GAP, PRISM, LENS, PRISM])
        self.assertEqual(Bench([]).put(0, GAP), 1)

    def test_take(self):
        bench = Bench([GAP, LENS, STOP])
        self.assertEqual(bench.take(1), LENS)
        self.assertEqual(bench.train(), [GAP, STOP])
        self.assertEqual(bench.take(1), STOP)
        self.assertEqual(bench.take(0), GAP)
        self.assertEqual(bench.train(), [])
        self.assertEqual(bench.operations(), 3)

    def test_exchange(self):
        bench = Bench([GAP, LENS, STOP])
        self.assertEqual(bench.exchange(1, PRISM), LENS)
        self.assertEqual(bench.train(), [GAP, PRISM, STOP])
        self.assertEqual(bench.exchange(1, PRISM), PRISM)
        self.assertEqual(bench.train(), [GAP, PRISM, STOP])
        self.assertEqual(bench.operations(), 2)

    def test_undo(self):
        bench = Bench([GAP])
        self.assertIs(bench.undo(), False)
        bench.put(1, LENS)
        bench.exchange(0, STOP)
        bench.take(1)
        self.assertEqual(bench.operations(), 3)
        for expected in ([STOP, LENS], [GAP, LENS], [GAP]):
            self.assertIs(bench.undo(), True)
            self.assertEqual(bench.train(), expected)
        self.assertEqual(bench.operations(), 0)
        self.assertIs(bench.undo(), False)
        self.assertIs(bench.undo(), False)
        self.assertEqual(bench.train(), [GAP])
        self.assertEqual(bench.operations(), 0)

    def test_what_is_undone_is_no_operation_any_more(self):
        bench = Bench([])
        bench.put(0, GAP)
        bench.put(1, LENS)
        bench.undo()
        bench.put(0, STOP)
        self.assertEqual(bench.operations(), 2)
        self.assertEqual(bench.history(), [[GAP], [STOP, GAP]])
        bench.undo()
        self.assertEqual(bench.train(), [GAP])

    def test_history(self):
        bench = Bench([GAP])
        bench.put(1, LENS)
        bench.exchange(0, STOP)
        bench.exchange(0, STOP)
        bench.take(1)
        self.assertEqual(bench.history(), [[GAP, LENS], [STOP, LENS], [STOP, LENS], [STOP]])

    def test_long_ways_beside_a_plain_model(self):
        chance = random.Random(371)
        for _ in range(30):
            start = [GAP] * chance.randint(0, 20)
            bench, model = Bench(start), Model(start)
            for _ in range(80):
                self.assertTrue(random_step(chance, bench, model))
                self.assertEqual(bench.train(), model.now())
                self.assertEqual(bench.operations(), len(model.trains) - 1)
                self.assertEqual(bench.history(), model.trains[1:])


class Limits(unittest.TestCase):
    def test_twenty_elements_and_more(self):
        self.assertEqual(len(Bench([GAP] * 20).train()), 20)
        for many in (21, 22, 100):
            with self.assertRaises(TrainFull):
                Bench([GAP] * many)

    def test_putting_into_a_full_train(self):
        bench = Bench([GAP] * 19)
        self.assertEqual(bench.put(7, LENS), 20)
        for index in (0, 7, 20):
            with self.assertRaises(TrainFull):
                bench.put(index, LENS)
        self.assertEqual(bench.operations(), 1)
        self.assertEqual(bench.train().count(LENS), 1)
        bench.exchange(0, STOP)
        bench.take(3)
        self.assertEqual(bench.put(19, STOP), 20)

    def test_a_wrong_position_counts_more_than_a_full_train(self):
        bench = Bench([GAP] * 20)
        for index in (-1, 21, 100):
            with self.assertRaises(NoSuchPosition) as caught:
                bench.put(index, LENS)
            self.assertEqual(caught.exception.index, index)

    def test_positions_that_there_are_not(self):
        for train in ([], [GAP], [GAP, LENS, STOP]):
            bench = Bench(train)
            for index in (-1, -len(train), -len(train) - 1, len(train) + 1, 1000):
                if not 0 <= index <= len(train):
                    with self.assertRaises(NoSuchPosition) as caught:
                        bench.put(index, PRISM)
                    self.assertEqual(caught.exception.index, index)
            self.assertEqual((bench.train(), bench.operations(), bench.history()), (train, 0, []))

    def test_indexes_that_there_are_not(self):
        for train in ([], [GAP], [GAP, LENS, STOP]):
            bench = Bench(train)
            for index in (-1, -len(train) - 1, len(train), len(train) + 1, 1000):
                with self.assertRaises(NoSuchElement) as caught:
                    bench.take(index)
                self.assertEqual(caught.exception.index, index)
                with self.assertRaises(NoSuchElement) as caught:
                    bench.exchange(index, PRISM)
                self.assertEqual(caught.exception.index, index)
            self.assertEqual((bench.train(), bench.operations(), bench.history()), (train, 0, []))

    def test_an_error_leaves_the_operations_in_effect(self):
        bench = Bench([GAP])
        bench.put(1, LENS)
        for change in (lambda: bench.put(9, GAP), lambda: bench.take(2), lambda: bench.exchange(-1, GAP)):
            with self.assertRaises((NoSuchPosition, NoSuchElement)):
                change()
            self.assertEqual(bench.history(), [[GAP, LENS]])


class Branches(unittest.TestCase):
    def test_the_same_train_and_operations(self):
        bench = Bench([GAP])
        bench.put(1, LENS)
        bench.take(0)
        branch = bench.branch()
        self.assertIsInstance(branch, Bench)
        self.assertIsNot(branch, bench)
        self.assertEqual((branch.train(), branch.operations(), branch.history()),
                         (bench.train(), bench.operations(), bench.history()))
        self.assertTrue(branch.undo())
        self.assertEqual(branch.train(), [GAP, LENS])
        self.assertTrue(branch.undo())
        self.assertEqual(branch.train(), [GAP])
        self.assertFalse(branch.undo())
        self.assertEqual((bench.train(), bench.operations()), ([LENS], 2))

    def test_each_goes_on_alone(self):
        bench = Bench([GAP])
        bench.put(1, LENS)
        branch = bench.branch()
        bench.put(0, STOP)
        branch.exchange(0, PRISM)
        branch.put(2, GAP)
        self.assertEqual(bench.history(), [[GAP, LENS], [STOP, GAP, LENS]])
        self.assertEqual(branch.history(), [[GAP, LENS], [PRISM, LENS], [PRISM, LENS, GAP]])
        further = branch.branch()
        bench.undo()
        bench.undo()
        branch.undo()
        self.assertEqual((bench.train(), bench.operations()), ([GAP], 0))
        self.assertEqual((branch.train(), branch.operations()), ([PRISM, LENS], 2))
        self.assertEqual((further.train(), further.operations()), ([PRISM, LENS, GAP], 3))

    def test_of_new_and_full_benches(self):
        self.assertEqual(Bench([]).branch().history(), [])
        branch = Bench([GAP] * 20).branch()
        with self.assertRaises(TrainFull):
            branch.put(0, GAP)


class Lists(unittest.TestCase):
    def test_the_list_passed_in(self):
        train = parse_train("gap 1; lens 2; stop to 3")
        before = copy.deepcopy(train)
        bench = Bench(train)
        bench.take(0)
        bench.put(0, STOP)
        bench.exchange(1, STOP)
        self.assertEqual(train, before)
        train.clear()
        bench.undo(), bench.undo(), bench.undo()
        self.assertEqual(bench.train(), before)

    def test_lists_handed_out_are_new(self):
        bench = Bench([GAP])
        bench.train().append(STOP)
        self.assertEqual(bench.train(), [GAP])
        bench.put(1, LENS)
        bench.put(2, PRISM)
        bench.train().clear()
        bench.history().clear()
        bench.history()[0].clear()
        bench.history()[1].append(STOP)
        branch = bench.branch()
        branch.history()[0].clear()
        branch.train().clear()
        for found in (bench, branch):
            self.assertEqual(found.train(), [GAP, LENS, PRISM])
            self.assertEqual(found.history(), [[GAP, LENS], [GAP, LENS, PRISM]])
            found.undo()
            self.assertEqual(found.train(), [GAP, LENS])

    def test_a_list_that_is_handed_out_stays_as_it_is(self):
        bench = Bench([GAP])
        bench.put(1, LENS)
        train, history = bench.train(), bench.history()
        bench.put(0, STOP)
        bench.undo()
        bench.undo()
        self.assertEqual(train, [GAP, LENS])
        self.assertEqual(history, [[GAP, LENS]])
        self.assertIsInstance(train, list)
        self.assertIsInstance(history[0], list)


if __name__ == "__main__":
    unittest.main()
