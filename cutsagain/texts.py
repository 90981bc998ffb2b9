"""Rules written as texts, and read from them."""

from cutsagain.errors import BadLine
from cutsagain.rules import Rule

NO_MOST = "none"


def write(rule):
    """The text of a rule: a line of its numbers, and one of each word."""
    most = NO_MOST if rule.most is None else rule.most
    lines = [f"rule {rule.signs} {rule.window} {rule.least} {most}"]
    for word in rule.words:
        lines.append(" ".join(["word"] + [str(sign) for sign in word]))
    return "\n".join(lines)


def read(text):
    """The rule of a text as write makes it, also of one with further spaces."""
    lines = [[part for part in row.split(" ") if part != ""] for row in text.split("\n")]
    signs, window, least, most = read_numbers(lines[0])
    words = []
    for line, parts in enumerate(lines[1:], start=2):
        word = read_word(line, parts, signs, window)
        if len(words) > 0 and word <= words[-1]:
            raise BadLine(line, 0)
        words.append(word)
    return Rule(signs, window, tuple(words), least, most)


def read_numbers(parts):
    """The number of signs, the window, the least and the most length, from the parts of the first line."""
    choices = [["rule"], digits(2, 3), digits(1, 3), digits(1, 6)]
    check_parts(1, parts, choices)
    # The most hangs on the least length, which stands by now.
    least = int(parts[3])
    choices.append(digits(least, 8) + [NO_MOST])
    check_parts(1, parts, choices)
    check_end(1, parts, choices)
    most = None if parts[4] == NO_MOST else int(parts[4])
    return int(parts[1]), int(parts[2]), least, most


def read_word(line, parts, signs, window):
    """The word of a line, from its parts."""
    choices = [["word"]] + [digits(0, signs - 1)] * window
    check_parts(line, parts, choices)
    check_end(line, parts, choices)
    return tuple([int(part) for part in parts[1:]])


def digits(low, high):
    """The single digits from low to high, as they are written."""
    return [str(number) for number in range(low, high + 1)]


def check_parts(line, parts, choices):
    """Check that the first parts of a line are there, and each one among its choices."""
    for at, right in enumerate(choices):
        if at >= len(parts) or parts[at] not in right:
            raise BadLine(line, at + 1)


def check_end(line, parts, choices):
    """Check that nothing stands behind the parts that have choices."""
    if len(parts) > len(choices):
        raise BadLine(line, len(choices) + 1)
