"""Points [38] to [40], and the heading raytrain/journal.py of the interface."""

import random
import re
import unittest
from fractions import Fraction

from raytrain.bench import Bench
from raytrain.errors import NoSuchElement, NoSuchPosition, PowerCut, ShutError, TrainFull
from raytrain.journal import Device, JournaledBench, opened, record_of, recovered
from raytrain.texts import parse_train
from tests.helper import pair

NUMBER = r"(0|-?[1-9][0-9]*(?:/[1-9][0-9]*)?)"
FORMS = [f"gap {NUMBER}", f"lens {NUMBER}", f"lens {NUMBER} at {NUMBER}", f"prism {NUMBER}", f"afocal {NUMBER}",
         "stop", f"stop from {NUMBER}", f"stop to {NUMBER}", f"stop from {NUMBER} to {NUMBER}"]
TEXTS = ["gap 1", "gap -3/7", "lens 2", "lens 2 at -1/3", "lens 0", "prism 1000000/999999", "afocal -1", "stop",
         "stop from -1", "stop to 0", "stop from -1000000/999999 to -1000000/999999", "stop from 1/2 to 2/3"]
LIMITED = 1000000


def body_octets(code, index, text):
    """Return the octets of a body with an index and a text."""
    return [code, index] + list(text.encode("ascii"))


def record(body):
    """Return the record of a body."""
    return [len(body) >> 8, len(body) & 255] + list(body) + [sum(body) & 255, 170]


def element(text):
    """Return the element of a text."""
    return parse_train(text)[0]


def is_canonical(text):
    """Return whether a text is the canonical one of an element, told without the package."""
    found = next((match for match in (re.fullmatch(form, text, re.ASCII) for form in FORMS) if match), None)
    if found is None:
        return False
    numbers = [Fraction(number) for number in found.groups()]
    parts = [abs(part) for number in numbers for part in (number.numerator, number.denominator)]
    if [str(number) for number in numbers] != list(found.groups()) or max(parts, default=0) > LIMITED:
        return False
    if text.startswith("afocal"):
        return numbers != [0]
    if " at " in text:
        return numbers[1] != 0
    return " to " not in text or len(numbers) < 2 or numbers[0] <= numbers[1]


def told_operation(body):
    """Return the operation of a body, or None, told without the package's match."""
    if bytes(body) == b"\x04":
        return ("undo",)
    if len(body) == 2 and body[0] == 2:
        return ("take", body[1])
    if len(body) > 2 and body[0] in (1, 3):
        text = bytes(body[2:]).decode("latin-1")
        if is_canonical(text):
            return ("put" if body[0] == 1 else "exchange", body[1], element(text))
    return None


def told_recovered(octets):
    """Return what is recovered, told a second time."""
    operations, rest = [], list(octets)
    while len(rest) >= 4:
        length = rest[0] * 256 + rest[1]
        if len(rest) < length + 4:
            break
        body, (total, last) = rest[2:length + 2], rest[length + 2:length + 4]
        operation = told_operation(body)
        if last != 170 or total != sum(body) % 256 or operation is None:
            break
        operations.append(operation)
        rest = rest[length + 4:]
    return operations, len(octets) - len(rest)


def all_operations():
    """Return operations of all words, with all texts."""
    found = [("undo",), ("take", 0), ("take", 19), ("take", 170)]
    for place, text in enumerate(TEXTS):
        found += [("put", place, element(text)), ("exchange", 19 - place, element(text))]
    return found


def journal_of(operations):
    """Return the octets of the records of operations."""
    return [octet for operation in operations for octet in record_of(operation)]


def plain_steps(train, operations):
    """Return the bench on which operations were performed."""
    bench = Bench(train)
    for word, *rest in operations:
        getattr(bench, word)(*rest)
    return bench


START = parse_train("gap 1; stop from -1 to 1")
STEPS = [("put", 0, element("lens 1/2 at 3")), ("take", 1), ("exchange", 1, element("gap -1000000/999999")),
         ("undo",), ("put", 2, element("stop")), ("undo",), ("undo",), ("exchange", 0, element("prism 5"))]


class Records(unittest.TestCase):
    def test_told_records(self):
        self.assertEqual(record_of(("undo",)), [0, 1, 4, 4, 170])
        self.assertEqual(record_of(("take", 0)), [0, 2, 2, 0, 2, 170])
        self.assertEqual(record_of(("take", 19)), [0, 2, 2, 19, 21, 170])
        self.assertEqual(record_of(("put", 3, ("gap", (1, 1)))), [0, 7, 1, 3, 103, 97, 112, 32, 49, 141, 170])
        self.assertEqual(record_of(("exchange", 0, ("stop", None, None))), [0, 6, 3, 0, 115, 116, 111, 112, 201, 170])

    def test_the_body_has_the_canonical_text(self):
        for code, word in [(1, "put"), (3, "exchange")]:
            for text in TEXTS:
                for index in (0, 7, 20):
                    self.assertEqual(record_of((word, index, element(text))), record(body_octets(code, index, text)))

    def test_bodies_of_more_than_255_octets(self):
        for places in (247, 248, 249, 250, 251, 252, 600):
            found = record_of(("put", 3, ("gap", (10 ** places, 1))))
            self.assertEqual(found, record(body_octets(1, 3, "gap 1" + "0" * places)))

    def test_octets(self):
        for operation in all_operations():
            found = record_of(operation)
            self.assertIsInstance(found, list)
            self.assertTrue(all(0 <= octet <= 255 for octet in found))
            found.clear()
            self.assertNotEqual(record_of(operation), [])

    def test_read_again(self):
        for operation in all_operations():
            octets = record_of(operation)
            self.assertEqual(recovered(octets), ([operation], len(octets)))
            self.assertIsInstance(recovered(octets)[0], list)


class Recovered(unittest.TestCase):
    def check(self, body, expected):
        with self.subTest(body=bytes(body)):
            octets = record_of(("take", 5)) + record(body) + record_of(("undo",))
            whole = [("take", 5)] + ([expected, ("undo",)] if expected else [])
            self.assertEqual(recovered(octets), (whole, len(octets) if expected else 6))

    def check_text(self, text, good=False):
        self.check(body_octets(1, 2, text), ("put", 2, element(text)) if good else None)
        self.check(body_octets(3, 0, text), ("exchange", 0, element(text)) if good else None)

    def test_nothing(self):
        self.assertEqual(recovered([]), ([], 0))
        for octets in ([0], [0, 0], [0, 0, 0], [0, 0, 0, 170], [170], [0, 1, 4, 4], [255, 255, 1]):
            self.assertEqual(recovered(octets), ([], 0))

    def test_several_records(self):
        operations = all_operations()
        octets = journal_of(operations)
        self.assertEqual(recovered(octets), (operations, len(octets)))

    def test_cut_at_each_octet(self):
        operations = all_operations()[:9]
        octets = journal_of(operations)
        ends = [len(journal_of(operations[:many])) for many in range(len(operations) + 1)]
        for length in range(len(octets) + 1):
            many = sum(1 for end in ends if end <= length) - 1
            self.assertEqual(recovered(octets[:length]), (operations[:many], ends[many]))

    def test_octets_behind_the_last_whole_record(self):
        octets = journal_of(STEPS)
        for rest in ([0], [170], [0, 0, 0, 170], [0, 1, 4, 5, 170], [0, 1, 4, 4, 171], [9] * 40, [255] * 4):
            self.assertEqual(recovered(octets + rest), (STEPS, len(octets)))
        # A whole record behind one that is not whole is cut off, too.
        self.assertEqual(recovered(octets + [0, 1, 4, 5, 170] + octets), (STEPS, len(octets)))

    def test_one_octet_exchanged(self):
        operations = [("take", 1), ("put", 4, element("gap 1/2")), ("undo",), ("exchange", 0, element("stop"))]
        octets = journal_of(operations)
        different = 0
        for place in range(len(octets)):
            for octet in range(256):
                changed = octets[:place] + [octet] + octets[place + 1:]
                found = recovered(changed)
                self.assertEqual(found, told_recovered(changed), (place, octet))
                different += found[0] != operations
        self.assertEqual(different, 255 * len(octets))

    def test_bodies_that_tell_nothing(self):
        for body in ([], [0], [1], [2], [3], [5], [4, 0], [4, 4], [2, 1, 0], [2, 1, 1], [1, 0], [3, 0], [0, 0], [5, 1],
                     [255], [6, 0] + list(b"stop"), [2, 0] + list(b"stop"), [4] + list(b"stop")):
            self.check(body, None)

    def test_texts_that_are_not_canonical(self):
        for text in ["gap  1", " gap 1", "gap 1 ", "gap 2/2", "gap 2/4", "gap 1/1", "gap 0/5", "gap -0", "gap +1",
                     "gap 01", "lens 1 at 0", "lens 1 at 2/2", "stop ", "stop from 1  to 2", "GAP 1", "gap 1;", ";",
                     "; gap 1"]:
            self.check_text(text)

    def test_texts_that_cannot_be_read(self):
        for text in ["", " ", "gap", "gap x", "stop from", "stop from 1 to", "lens 1 at", "afocal 0",
                     "stop from 2 to 1", "gap 1000001", "gap 1/1000001", "stop to 1 from 0", "gap 1?",
                     "gap\x001", "gap \xff", "gap 1\n",
                     "gap 1/0", "gap \xb2"]:
            self.check(body_octets(1, 2, "") + list(text.encode("latin-1")), None)

    def test_texts_of_no_or_two_elements(self):
        for text in ["", "gap 1; gap 1", "stop; stop", "gap 1;gap 1", "gap 1; lens 2; stop"]:
            self.check_text(text)

    def test_good_texts(self):
        for text in TEXTS + ["gap 1000000", "gap -1/1000000", "stop from 2 to 2"]:
            self.check_text(text, True)

    def test_wrong_lengths(self):
        good = record(body_octets(1, 0, "gap 1"))
        for length in list(range(7)) + list(range(8, 30)) + [256 + 7, 65535]:
            octets = [length >> 8, length & 255] + good[2:]
            self.assertEqual(recovered(octets), ([], 0))
            self.assertEqual(recovered(octets + good), told_recovered(octets + good))

    def test_long_texts(self):
        long = body_octets(1, 0, "gap 1" + " " * 300)
        self.assertEqual(recovered(record_of(("undo",)) + record(long)), ([("undo",)], 5))

    def test_any_octets(self):
        chance = random.Random(391)
        pieces = [record_of(operation) for operation in all_operations()] + [[0], [170], [1], [4], [0, 1], [2, 2]]
        for _ in range(600):
            octets = [octet for _ in range(chance.randint(0, 6)) for octet in chance.choice(pieces)]
            if octets and chance.random() < 0.5:
                octets[chance.randrange(len(octets))] = chance.randrange(256)
            before = list(octets)
            self.assertEqual(recovered(octets), told_recovered(octets))
            self.assertEqual(octets, before)


class Devices(unittest.TestCase):
    def test_octets_are_appended(self):
        device = Device([7, 8], 3)
        self.assertEqual((device.octets, device.power), ([7, 8], 3))
        device.append(9)
        self.assertEqual((device.octets, device.power), ([7, 8, 9], 2))
        device.append(0)
        device.append(255)
        self.assertEqual((device.octets, device.power), ([7, 8, 9, 0, 255], 0))

    def test_without_power(self):
        for octets, power in [([], 0), ([1, 2], 0), ([1, 2], 3), ([], 1)]:
            device = Device(octets, power)
            for octet in range(power):
                device.append(octet)
            for _ in range(3):
                with self.assertRaises(PowerCut) as caught:
                    device.append(170)
                self.assertEqual(caught.exception.written, len(octets) + power)
            self.assertEqual((device.octets, device.power), (octets + list(range(power)), 0))

    def test_the_list_passed_in(self):
        octets = [1, 2]
        device = Device(octets, 5)
        device.append(3)
        self.assertEqual(octets, [1, 2])
        self.assertIsInstance(device.octets, list)


class Performed(unittest.TestCase):
    def test_a_new_one(self):
        bench, device = Bench(START), Device([], 9)
        journaled = JournaledBench(bench, device)
        self.assertIs(journaled.bench, bench)
        self.assertIs(journaled.device, device)
        self.assertIs(journaled.shut, False)

    def test_what_the_methods_return(self):
        journaled = JournaledBench(Bench(START), Device([], 10000))
        self.assertEqual(journaled.perform(("put", 0, element("lens 1"))), 3)
        self.assertEqual(journaled.perform(("take", 1)), element("gap 1"))
        self.assertEqual(journaled.perform(("exchange", 0, element("stop"))), element("lens 1"))
        self.assertIs(journaled.perform(("undo",)), True)
        self.assertEqual(journaled.bench.train(), parse_train("lens 1; stop from -1 to 1"))
        self.assertEqual(journaled.bench.operations(), 2)
        self.assertIs(journaled.shut, False)

    def test_the_records_are_on_the_device(self):
        journaled = JournaledBench(Bench(START), Device([], 10000))
        for many, step in enumerate(STEPS):
            journaled.perform(step)
            self.assertEqual(journaled.device.octets, journal_of(STEPS[:many + 1]))
            self.assertEqual(journaled.bench.history(), plain_steps(START, STEPS[:many + 1]).history())
        self.assertEqual(journaled.device.power, 10000 - len(journal_of(STEPS)))

    def test_behind_octets_that_are_there(self):
        journaled = JournaledBench(Bench(START), Device([1, 2, 3], 100))
        journaled.perform(("take", 0))
        self.assertEqual(journaled.device.octets, [1, 2, 3, 0, 2, 2, 0, 2, 170])

    def test_undo_without_an_operation_writes_nothing(self):
        for power in (0, 100):
            journaled = JournaledBench(Bench(START), Device([], power))
            self.assertIs(journaled.perform(("undo",)), False)
            self.assertEqual((journaled.device.octets, journaled.shut), ([], False))
        journaled.perform(("take", 0))
        journaled.perform(("undo",))
        written = list(journaled.device.octets)
        self.assertIs(journaled.perform(("undo",)), False)
        self.assertEqual(journaled.device.octets, written)

    def test_operations_that_raise_write_nothing(self):
        for power in (0, 100):
            for train, operation, error in [
                    (START, ("take", 2), NoSuchElement), (START, ("take", -1), NoSuchElement),
                    (START, ("exchange", 5, element("stop")), NoSuchElement), ([], ("take", 0), NoSuchElement),
                    (START, ("put", 3, element("stop")), NoSuchPosition), (START, ("put", -1, element("stop")),
                                                                           NoSuchPosition),
                    (START * 10, ("put", 0, element("stop")), TrainFull)]:
                journaled = JournaledBench(Bench(train), Device([], power))
                with self.assertRaises(error):
                    journaled.perform(operation)
                self.assertEqual((journaled.device.octets, journaled.device.power, journaled.shut), ([], power, False))
                self.assertEqual((journaled.bench.train(), journaled.bench.operations()), (train, 0))


class PowerCuts(unittest.TestCase):
    def run_until_cut(self, power):
        """Return a journaled bench whose power went, and the operations that were told as performed before."""
        journaled = JournaledBench(Bench(START), Device([], power))
        for many, step in enumerate(STEPS):
            try:
                journaled.perform(step)
            except PowerCut as error:
                self.assertEqual(error.written, power)
                return journaled, many
        return journaled, len(STEPS)

    def test_at_each_octet(self):
        whole = journal_of(STEPS)
        for power in range(len(whole) + 1):
            journaled, told = self.run_until_cut(power)
            self.assertEqual(journaled.device.octets, whole[:power])
            self.assertEqual(journaled.device.power, 0)
            self.assertEqual(recovered(journaled.device.octets)[0], STEPS[:told])
            self.assertIs(journaled.shut, told < len(STEPS))
            # What was performed stays performed, the one whose record is not whole, too.
            self.assertEqual(journaled.bench.history(), plain_steps(START, STEPS[:told + 1]).history())

    def test_exactly_behind_a_record(self):
        first = len(record_of(STEPS[0]))
        journaled = JournaledBench(Bench(START), Device([], first))
        self.assertEqual(journaled.perform(STEPS[0]), 3)
        self.assertIs(journaled.shut, False)
        with self.assertRaises(PowerCut) as caught:
            journaled.perform(STEPS[1])
        self.assertEqual(caught.exception.written, first)
        self.assertIs(journaled.shut, True)
        self.assertEqual(journaled.bench.operations(), 2)

    def test_the_number_counts_what_was_there_before(self):
        journaled = JournaledBench(Bench(START), Device([4, 5, 6], 2))
        with self.assertRaises(PowerCut) as caught:
            journaled.perform(("take", 0))
        self.assertEqual(caught.exception.written, 5)
        self.assertEqual(journaled.device.octets, [4, 5, 6, 0, 2])

    def test_shut(self):
        for power in range(len(record_of(STEPS[0]))):
            journaled, _ = self.run_until_cut(power)
            before = (journaled.bench.history(), list(journaled.device.octets))
            for operation in STEPS + [("undo",), ("take", 99), ("put", -1, element("stop"))]:
                with self.assertRaises(ShutError):
                    journaled.perform(operation)
            self.assertEqual((journaled.bench.history(), journaled.device.octets), before)
            # New power does not open it again.
            journaled.device.power = 1000
            with self.assertRaises(ShutError):
                journaled.perform(("take", 0))


class Opened(unittest.TestCase):
    def test_nothing_was_written(self):
        journaled = opened(START, [], 7)
        self.assertIsInstance(journaled, JournaledBench)
        self.assertIsInstance(journaled.bench, Bench)
        self.assertIsInstance(journaled.device, Device)
        self.assertEqual((journaled.bench.train(), journaled.bench.operations()), (START, 0))
        self.assertEqual((journaled.device.octets, journaled.device.power, journaled.shut), ([], 7, False))

    def test_cut_at_each_octet(self):
        whole = journal_of(STEPS)
        for length in range(len(whole) + 1):
            told, end = recovered(whole[:length])
            journaled = opened(START, whole[:length], 3)
            self.assertEqual(journaled.device.octets, whole[:end])
            self.assertEqual((journaled.device.power, journaled.shut), (3, False))
            expected = plain_steps(START, told)
            self.assertEqual(journaled.bench.train(), expected.train())
            self.assertEqual(journaled.bench.history(), expected.history())

    def test_opening_performing_and_opening_again(self):
        chance = random.Random(401)
        for _ in range(60):
            octets, told = [], []
            for _ in range(8):
                journaled = opened(START, octets, chance.randint(0, 60))
                self.assertEqual(journaled.bench.history(), plain_steps(START, told).history())
                for _ in range(chance.randint(0, 4)):
                    step = chance.choice(STEPS)
                    try:
                        if journaled.perform(step) is not False:
                            told.append(step)
                    except (NoSuchElement, NoSuchPosition):
                        pass
                    except PowerCut as error:
                        self.assertEqual(error.written, len(journaled.device.octets))
                        break
                octets = journaled.device.octets
                self.assertEqual(recovered(octets)[0], told)

    def test_what_is_cut_off_is_written_over(self):
        octets = journal_of(STEPS[:1]) + record_of(STEPS[1])[:4]
        journaled = opened(START, octets, 100)
        journaled.perform(("take", 0))
        self.assertEqual(recovered(journaled.device.octets)[0], [STEPS[0], ("take", 0)])

    def test_the_lists_passed_in(self):
        octets = journal_of(STEPS[:2]) + [0, 1]
        before = list(octets)
        train = list(START)
        journaled = opened(train, octets, 100)
        journaled.perform(("take", 0))
        self.assertEqual((octets, train), (before, START))
        train.clear()
        octets.clear()
        self.assertEqual(recovered(journaled.device.octets)[0], STEPS[:2] + [("take", 0)])

    def test_a_train_that_is_too_long(self):
        with self.assertRaises(TrainFull):
            opened(START * 10 + START[:1], [], 5)
        self.assertEqual(opened(START * 10, [], 5).bench.train(), START * 10)

    def test_wide_parts(self):
        operation = ("put", 0, ("gap", pair(-LIMITED, 999999)))
        journaled = opened(START, record_of(operation), 0)
        self.assertEqual(journaled.bench.train(), [operation[2]] + START)


if __name__ == "__main__":
    unittest.main()
