"""Benches: trains that are changed by operations, which can be undone."""

from raytrain.errors import NoSuchElement, NoSuchPosition, TrainFull

MOST_ELEMENTS = 20


class Bench:
    """A train of at most 20 elements, and the operations in effect."""

    def __init__(self, train):
        if len(train) > MOST_ELEMENTS:
            raise TrainFull()
        self._beginning = list(train)
        # The trains behind each operation in effect; none of these lists is changed any more.
        self._trains = []

    def train(self):
        """Return the train as it is now."""
        return list(self._trains[-1] if self._trains else self._beginning)

    def operations(self):
        """Return the number of operations in effect."""
        return len(self._trains)

    def history(self):
        """Return the list of the trains behind each of the operations in effect."""
        return [list(train) for train in self._trains]

    def put(self, index, element):
        """Put an element in front of the one with an index, or at the end; return the number of elements then."""
        train = self.train()
        if not 0 <= index <= len(train):
            raise NoSuchPosition(index)
        if len(train) >= MOST_ELEMENTS:
            raise TrainFull()
        train.insert(index, element)
        self._trains.append(train)
        return len(train)

    def take(self, index):
        """Take the element with an index out, and return it."""
        train = self.train_with(index)
        element = train.pop(index)
        self._trains.append(train)
        return element

    def exchange(self, index, element):
        """Exchange the element with an index for another one, and return the one that was there."""
        train = self.train_with(index)
        before = train[index]
        train[index] = element
        self._trains.append(train)
        return before

    def train_with(self, index):
        """Return the train as it is now, if it has an element with an index."""
        train = self.train()
        if not 0 <= index < len(train):
            raise NoSuchElement(index)
        return train

    def undo(self):
        """Take the last operation in effect back; return whether there was one."""
        if not self._trains:
            return False
        self._trains.pop()
        return True

    def branch(self):
        """Return a bench of its own with the same train and the same operations in effect."""
        other = Bench(self._beginning)
        other._trains = list(self._trains)
        return other
