"""Help with counts: in decimal, in runs that come back, and which counts fit a grade."""

from math import gcd

FIGURES = 60
BLOCK = 10 ** 60


def greater(first, second):
    """The greater one of two integers."""
    return first if first >= second else second


def lesser(first, second):
    """The lesser one of two integers."""
    return first if first <= second else second


def item_of_run(trail, back, index):
    """The item at an index of an endless run that begins with trail and then goes on from position back again."""
    if index < len(trail):
        return trail[index]
    return trail[back + (index - back) % (len(trail) - back)]


def in_decimal(number):
    """An integer from 0 in decimal.

    Python refuses to write or read integers of more than some thousand figures at once, hence the blocks.
    """
    rest = number
    blocks = []
    while rest >= BLOCK:
        rest, block = divmod(rest, BLOCK)
        blocks.append(str(block).zfill(FIGURES))
    blocks.append(str(rest))
    return "".join(blocks[::-1])


def from_decimal(text):
    """The integer from 0 whose text in decimal without leading zeros this is, or None."""
    if not text.isascii() or not text.isdigit() or (text.startswith("0") and text != "0"):
        return None
    first = len(text) % FIGURES
    number = int("0" + text[:first])
    for at in range(first, len(text), FIGURES):
        number = number * BLOCK + int(text[at:at + FIGURES])
    return number


class Tail:
    """A set of counts from start on: those from low to high that leave one of the rests when divided by the period.

    Of counts below start it tells nothing. There is no highest count if high is None.
    """

    def __init__(self, start, period, rests, low, high):
        self.start = start
        self.period = period
        self.rests = list(rests)
        self.low = low
        self.high = high

    def goes_on(self, count):
        """Whether some count of at least this one, and of at least start, is in the set."""
        least = greater(greater(count, self.start), self.low)
        for rest in self.rests:
            if self.high is None or least + (rest - least) % self.period <= self.high:
                return True
        return False


def common_tail(tails):
    """The counts that are in all tails."""
    common = Tail(0, 1, [0], 0, None)
    for tail in tails:
        common = joined(common, tail)
    return common


def joined(first, second):
    """The counts that are in both tails."""
    steps = second.period // gcd(first.period, second.period)
    candidates = [rest + first.period * step for rest in first.rests for step in range(steps)]
    rests = [rest for rest in candidates if rest % second.period in second.rests]
    high = first.high
    if high is None or (second.high is not None and second.high < high):
        high = second.high
    low = greater(first.low, second.low)
    return Tail(greater(first.start, second.start), first.period * steps, rests, low, high)
