"""Texts of trains: writing the canonical one, and reading them."""

from raytrain.errors import BadTrain, EndError, TokenError
from raytrain.rationals import ZERO, fraction, is_less

LARGEST_PART = 1000000
LARGEST_PART_LENGTH = 7
MOST_ELEMENTS = 16
MOST_STOPS = 8

# "a number" stands for any number: it has a space, so no token of a text is equal to it.
FORMS = (
    ("gap", "a number"),
    ("lens", "a number"),
    ("lens", "a number", "at", "a number"),
    ("prism", "a number"),
    ("afocal", "a number"),
    ("stop",),
    ("stop", "from", "a number"),
    ("stop", "to", "a number"),
    ("stop", "from", "a number", "to", "a number"),
)


def format_fraction(value):
    """Return the text of a fraction."""
    numerator, denominator = value
    return f"{numerator}" if denominator == 1 else f"{numerator}/{denominator}"


def format_train(train):
    """Return the canonical text of a train."""
    return "; ".join([format_element(element) for element in train])


def format_element(element):
    """Return the canonical text of an element."""
    words = [element[0]]
    match element:
        case ("stop", lower, upper):
            if lower is not None:
                words.extend(["from", format_fraction(lower)])
            if upper is not None:
                words.extend(["to", format_fraction(upper)])
        case ("lens", power, center):
            words.append(format_fraction(power))
            if center != ZERO:
                words.extend(["at", format_fraction(center)])
        case (_, value):
            words.append(format_fraction(value))
    return " ".join(words)


def tokens_of(text):
    """Return the list of the tokens of a text."""
    return [token for token in text.replace(";", " ; ").split(" ") if token != ""]


def is_number(token):
    """Return whether a token is a number."""
    if token == "0":
        return True
    numerator, slash, denominator = token.removeprefix("-").partition("/")
    return are_figures(numerator) and (slash == "" or are_figures(denominator))


def are_figures(text):
    """Return whether a text is a part of a number: figures without a leading zero that are not too great."""
    if text == "" or text[0] == "0" or len(text) > LARGEST_PART_LENGTH:
        return False
    return all([character in "0123456789" for character in text]) and int(text) <= LARGEST_PART


def number_of(token):
    """Return the fraction of a token that is a number."""
    numerator, _, denominator = token.partition("/")
    return fraction(int(numerator), int(denominator or "1"))


def form_of(part):
    """Return the tokens of a part of an element, with "a number" in place of each number."""
    return tuple(["a number" if is_number(token) else token for token in part])


def begins_element(part):
    """Return whether some element begins with these tokens."""
    form = form_of(part)
    return any([known[:len(form)] == form for known in FORMS])


def parts_of(tokens):
    """Return the lists of the tokens of each element; raises TokenError and EndError."""
    parts = []
    part = []
    for number, token in enumerate(tokens, start=1):
        if token == ";" and form_of(part) in FORMS:
            parts.append(part)
            part = []
        elif begins_element(part + [token]):
            part = part + [token]
        else:
            raise TokenError(number)
    if not tokens:
        return []
    if form_of(part) not in FORMS:
        raise EndError()
    return parts + [part]


def element_of(part):
    """Return the element that has these tokens."""
    match part:
        case ["stop"]:
            return ("stop", None, None)
        case ["stop", "from", lower]:
            return ("stop", number_of(lower), None)
        case ["stop", "to", upper]:
            return ("stop", None, number_of(upper))
        case ["stop", _, lower, _, upper]:
            return ("stop", number_of(lower), number_of(upper))
        case ["lens", power]:
            return ("lens", number_of(power), ZERO)
        case ["lens", power, _, center]:
            return ("lens", number_of(power), number_of(center))
        case [kind, value]:
            return (kind, number_of(value))


def parse_train(text):
    """Return the train of a text; raises TokenError, EndError and, only if neither of them, BadTrain."""
    train = [element_of(part) for part in parts_of(tokens_of(text))]
    stops = [element for element in train if element[0] == "stop"]
    if len(train) > MOST_ELEMENTS or len(stops) > MOST_STOPS:
        raise BadTrain()
    if not all([is_allowed(element) for element in train]):
        raise BadTrain()
    return train


def is_allowed(element):
    """Return whether an element is no afocal one of 0, and no stop with its edges exchanged."""
    match element:
        case ("stop", lower, upper):
            return lower is None or upper is None or not is_less(upper, lower)
        case ("afocal", enlargement):
            return enlargement != ZERO
        case _:
            return True
