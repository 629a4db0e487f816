"""Journals of benches: records of operations on a device that may lose its power, and what is recovered from it."""

from raytrain.bench import Bench
from raytrain.errors import BadTrain, EndError, PowerCut, ShutError, TokenError
from raytrain.texts import format_train, parse_train

LAST_OCTET = 170
# All characters of the canonical text of a train of one element.
CHARACTERS = " -/0123456789abcdefghijklmnopqrstuvwxyz"


def record_of(operation):
    """Return the record of an operation, a list of octets."""
    body = body_of(operation)
    return [len(body) // 256, len(body) % 256] + body + [sum(body) % 256, LAST_OCTET]


def body_of(operation):
    """Return the octets of the body of a record."""
    match operation:
        case ("put", index, element):
            return [1, index] + octets_of(element)
        case ("take", index):
            return [2, index]
        case ("exchange", index, element):
            return [3, index] + octets_of(element)
        case _:
            return [4]


def octets_of(element):
    """Return the codes of the characters of the canonical text of the train of an element alone."""
    return [ord(character) for character in format_train([element])]


def operation_of(body):
    """Return the operation that a body tells, or None if it tells none."""
    match body:
        case [1, index, *codes]:
            return operation_with("put", index, codes)
        case [2, index]:
            return ("take", index)
        case [3, index, *codes]:
            return operation_with("exchange", index, codes)
        case [4]:
            return ("undo",)
        case _:
            return None


def operation_with(word, index, codes):
    """Return the operation with an element whose canonical text has these codes, or None if there is none."""
    element = element_of(codes)
    return None if element is None else (word, index, element)


def element_of(codes):
    """Return the element whose canonical text has characters with these codes, or None if there is none."""
    known = {ord(character): character for character in CHARACTERS}
    # No text of a train has the character that stands for all others.
    text = "".join([known.get(code, "?") for code in codes])
    try:
        train = parse_train(text)
    except (TokenError, EndError, BadTrain):
        return None
    return train[0] if len(train) == 1 and format_train(train) == text else None


def recovered(octets):
    """Return the operations of the whole records at the beginning, and how many octets these take."""
    operations = []
    end = 0
    found = record_at(octets, end)
    while found is not None:
        operation, end = found
        operations.append(operation)
        found = record_at(octets, end)
    return (operations, end)


def record_at(octets, start):
    """Return the operation of the record that begins at a place, and where it ends, or None if it is not whole."""
    if start + 2 > len(octets):
        return None
    end = start + 2 + octets[start] * 256 + octets[start + 1] + 2
    if end > len(octets) or octets[end - 1] != LAST_OCTET:
        return None
    body = octets[start + 2:end - 2]
    operation = operation_of(body)
    if operation is None or sum(body) % 256 != octets[end - 2]:
        return None
    return (operation, end)


class Device:
    """Octets, and how many can still be written before the power goes."""

    def __init__(self, octets, power):
        self.octets = list(octets)
        self.power = power

    def append(self, octet):
        """Write an octet; raises PowerCut without power."""
        if self.power <= 0:
            raise PowerCut(len(self.octets))
        self.octets.append(octet)
        self.power -= 1


class JournaledBench:
    """A bench, the device that has the records of its operations, and whether this device lost its power."""

    def __init__(self, bench, device):
        self.bench = bench
        self.device = device
        self.shut = False

    def perform(self, operation):
        """Perform an operation, write its record, and return what the method of the bench returns."""
        if self.shut:
            raise ShutError()
        told = performed(self.bench, operation)
        if operation != ("undo",) or told:
            self.write(record_of(operation))
        return told

    def write(self, octets):
        """Write octets on the device, one by one; without power for all of them, nothing more is performed."""
        try:
            for octet in octets:
                self.device.append(octet)
        except PowerCut:
            self.shut = True
            raise


def performed(bench, operation):
    """Perform an operation on a bench, and return what its method returns."""
    match operation:
        case ("put", index, element):
            return bench.put(index, element)
        case ("take", index):
            return bench.take(index)
        case ("exchange", index, element):
            return bench.exchange(index, element)
        case _:
            return bench.undo()


def opened(train, octets, power):
    """Return the journaled bench of a train at the beginning and the octets of a device; the rest is cut off."""
    operations, many = recovered(octets)
    bench = Bench(train)
    for operation in operations:
        performed(bench, operation)
    return JournaledBench(bench, Device(octets[:many], power))
