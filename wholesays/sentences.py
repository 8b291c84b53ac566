"""Sentences about whole numbers: read from bytes and decided."""

# The answers that refuse, and what stands in their place where none is due.
TOO_LONG = -2
NO_TEXT = -1
FREE_UNKNOWN = -3
NO_REFUSAL = 0

LONGEST = 64
MOST_BINDERS = 3
MOST_CLAIMS = 8

# The bytes that texts are made of. Those of claims, joins and binders also name the steps.
NOT = 33
REST = 37
BOTH = 38
OPENING = 40
CLOSING = 41
PLUS = 43
ZERO = 48
LESS = 60
EQUAL = 61
IMPLIES = 62
ALL = 65
SOME = 69
CLAIM_START = 91
CLAIM_END = 93
EITHER = 124
UNKNOWNS = (120, 121, 122)

# One more join, which no text has: just one of both is so.
DIFFER = 94

# What stands behind the last byte; no byte is like it.
NOTHING = -1

# In the place of an unknown, where a sign binds none.
NO_UNKNOWN = -1

# In a sum, the place of its number, behind how many times x, y and z are in it.
NUMBER = 3


class NoText(ValueError):
    pass


# Reads one text into steps: claims, and behind what they work on, the signs that join or turn it. What is
# inside A or E is a list of steps of its own. Signs that still wait for their end are kept in a list, for
# texts nest as deep as they are long.
class Reader:
    def __init__(self, text):
        self.text = text
        self.place = 0
        self.refusal = NO_REFUSAL
        self.free = [False, False, False]
        self.waiting = []
        self.steps = []
        self.bodies = [self.steps]

    def peek(self):
        return self.text[self.place] if self.place < len(self.text) else NOTHING

    def take(self):
        byte = self.peek()
        self.place += 1
        return byte

    def take_just(self, byte):
        if self.take() != byte:
            raise NoText()

    def take_digit(self, lowest, highest):
        digit = self.take() - ZERO
        if digit < lowest or digit > highest:
            raise NoText()
        return digit

    def take_unknown(self):
        byte = self.take()
        if byte not in UNKNOWNS:
            raise NoText()
        return UNKNOWNS.index(byte)

    def read_whole(self):
        if self.text.count(ALL) + self.text.count(SOME) > MOST_BINDERS or self.text.count(CLAIM_START) > MOST_CLAIMS:
            raise NoText()
        self.read_to_claim()
        while len(self.waiting) > 0:
            self.go_on_behind_text()
        if self.place < len(self.text):
            raise NoText()

    def read_to_claim(self):
        byte = self.take()
        while byte != CLAIM_START:
            self.read_start(byte)
            byte = self.take()
        self.read_claim()

    def read_start(self, byte):
        if byte in (ALL, SOME):
            self.waiting.append((byte, self.take_unknown()))
            self.bodies.append([])
        elif byte in (NOT, OPENING):
            self.waiting.append((byte, NO_UNKNOWN))
        else:
            raise NoText()

    def go_on_behind_text(self):
        begun = self.waiting.pop()
        sign = begun[0]
        if sign == OPENING:
            self.read_join()
        elif sign in (ALL, SOME):
            body = self.bodies.pop()
            self.bodies[-1].append((sign, begun[1], body))
        else:
            if sign != NOT:
                self.take_just(CLOSING)
            self.bodies[-1].append((sign,))

    def read_join(self):
        sign = self.take()
        if sign not in (BOTH, EITHER, IMPLIES):
            raise NoText()
        self.waiting.append((sign, NO_UNKNOWN))
        self.read_to_claim()

    def read_claim(self):
        left = self.read_sum()
        sign = self.take()
        if sign == REST:
            divisor = self.take_digit(2, 9)
            self.take_just(EQUAL)
            rest = self.take_digit(0, divisor - 1)
            step = (REST, left[:NUMBER], left[NUMBER], divisor, rest)
        elif sign in (LESS, EQUAL):
            right = self.read_sum()
            slopes = [left[k] - right[k] for k in range(NUMBER)]
            step = (sign, slopes, left[NUMBER] - right[NUMBER])
        else:
            raise NoText()
        self.take_just(CLAIM_END)
        self.bodies[-1].append(step)

    def read_sum(self):
        total = [0, 0, 0, 0]
        self.read_part(total)
        while self.peek() == PLUS:
            self.take()
            self.read_part(total)
        return total

    def read_part(self, total):
        number = 1 if self.peek() in UNKNOWNS else self.take_digit(0, 9)
        if number > 0 and self.peek() in UNKNOWNS:
            unknown = self.read_unknown()
            total[unknown] += number
            return
        if number > 0 and ZERO <= self.peek() <= ZERO + 9:
            number = 10 * number + self.take_digit(0, 9)
        total[NUMBER] += number

    # Told here and not by the slopes: in [x=x] they are 0, and x is free all the same.
    def read_unknown(self):
        unknown = self.take_unknown()
        if not any([bound == unknown for sign, bound in self.waiting]):
            self.free[unknown] = True
        return unknown


# The steps and the free unknowns that the reader holds count only where it holds no refusal.
def read_text(text):
    reader = Reader(text)
    if len(text) > LONGEST:
        reader.refusal = TOO_LONG
        return reader
    try:
        reader.read_whole()
    except NoText:
        reader.refusal = NO_TEXT
    return reader


# A form is a sum of x, y and z, each so many times (its slopes), and a number. A band is all forms with
# these slopes and a number from low to high.
class Band:
    def __init__(self, slopes, low, high):
        self.slopes = slopes
        self.low = low
        self.high = high


# Enough to know of some steps: they are so at both of two points, or at neither, if at both points each form
# of each band has the same sign and x, y and z, divided by the period, leave the same rests. So of one
# unknown only those values need be tried that lie less than a period behind 0 or behind a change of some
# form's sign: from any other one can go back by whole periods, and no sign changes on the way.
class Outline:
    def __init__(self, bands, period):
        self.bands = bands
        self.period = period


def common_divisor(a, b):
    while b != 0:
        rest = a % b
        a = b
        b = rest
    return a


def common_multiple(a, b):
    return a * b // common_divisor(a, b)


def value_at(slopes, number, point):
    return slopes[0] * point[0] + slopes[1] * point[1] + slopes[2] * point[2] + number


def outline_of(steps):
    bands = []
    period = 1
    for step in steps:
        if step[0] in (LESS, EQUAL):
            bands.append(Band(step[1], step[2], step[2]))
        elif step[0] == REST:
            period = common_multiple(period, step[3])
        elif step[0] in (ALL, SOME):
            inner = outline_without(step[1], outline_of(step[2]))
            bands.extend(inner.bands)
            period = common_multiple(period, inner.period)
    return Outline(bands, period)


# The outline of A or E with this unknown, from that of what is inside. Each value that need be tried is
# (start + shift) / scale, where start / scale makes some form 0 and shift is from 0 to scale * period. What is
# so there hangs on the signs of all forms with that value put in, and on the rest of start by scale * period.
def outline_without(unknown, inner):
    turning = [rising(band, unknown) for band in inner.bands if band.slopes[unknown] != 0]
    # The unknown by itself: its sign tells which values are numbers from 0 on.
    turning.append(Band([1 if k == unknown else 0 for k in range(3)], 0, 0))
    scale = 1
    for band in turning:
        scale = common_multiple(scale, band.slopes[unknown])
    period = scale * inner.period
    bands = [band for band in inner.bands if band.slopes[unknown] == 0]
    for start in turning:
        bands.extend([put_in(start, band, unknown, scale, period) for band in turning])
    return Outline([in_lowest_terms(band) for band in bands if any(band.slopes)], period)


# A form and its opposite change their signs at the same places.
def rising(band, unknown):
    if band.slopes[unknown] > 0:
        return band
    return Band([-slope for slope in band.slopes], -band.high, -band.low)


# The forms of the band, times scale, where the unknown, times scale, is by 0 to most_shift above what makes
# a form of start 0. The unknown falls out.
def put_in(start, band, unknown, scale, most_shift):
    slope = band.slopes[unknown]
    times = slope * (scale // start.slopes[unknown])
    slopes = [scale * band.slopes[k] - times * start.slopes[k] for k in range(3)]
    low = scale * band.low - times * start.high
    high = scale * band.high - times * start.low + slope * most_shift
    return Band(slopes, low, high)


# The sign of d*n + number is known by those of n + number/d, rounded down and rounded up.
def in_lowest_terms(band):
    divisor = 0
    for slope in band.slopes:
        divisor = common_divisor(divisor, abs(slope))
    slopes = [slope // divisor for slope in band.slopes]
    return Band(slopes, band.low // divisor, -((-band.high) // divisor))


# The values of the unknown that need be tried, as pairs: from the first number to just before the second.
def stretches(unknown, steps, point):
    outline = outline_of(steps)
    origin = list(point)
    origin[unknown] = 0
    found = [(0, outline.period)]
    for band in outline.bands:
        if band.slopes[unknown] != 0:
            upward = rising(band, unknown)
            slope = upward.slopes[unknown]
            first = (-value_at(upward.slopes, upward.high, origin)) // slope
            last = (-value_at(upward.slopes, upward.low, origin)) // slope
            # A form that is 0 at a value changes its sign there, and once more right behind.
            found.append((max(first, 0), last + 1 + outline.period))
    return sorted(found)


# The least value of the unknown where the steps are so, or with wanted False aren't; None if there is none.
# What need be tried lies below what it stands for, so the least that is found is the least of all.
def least_value(unknown, steps, point, wanted):
    trial = list(point)
    tried = 0
    for first, end in stretches(unknown, steps, point):
        for value in range(max(first, tried), end):
            trial[unknown] = value
            if is_so(steps, trial) == wanted:
                return value
        tried = max(tried, end)
    return None


# Whether the steps are so where x, y and z are the point's. Calls stand in one another here as A and E do.
def is_so(steps, point):
    answers = []
    for step in steps:
        sign = step[0]
        if sign == NOT:
            answers.append(not answers.pop())
        elif sign in (BOTH, EITHER, IMPLIES, DIFFER):
            second = answers.pop()
            answers.append(is_join_so(sign, answers.pop(), second))
        elif sign == ALL:
            answers.append(least_value(step[1], step[2], point, False) is None)
        elif sign == SOME:
            answers.append(least_value(step[1], step[2], point, True) is not None)
        else:
            answers.append(is_claim_so(step, point))
    return answers.pop()


def is_join_so(sign, first, second):
    if sign == BOTH:
        return first and second
    if sign == EITHER:
        return first or second
    if sign == IMPLIES:
        return second or not first
    return first != second


def is_claim_so(step, point):
    value = value_at(step[1], step[2], point)
    if step[0] == LESS:
        return value < 0
    if step[0] == EQUAL:
        return value == 0
    return value % step[3] == step[4]


# The call that the words name true.
def is_true(text):
    reader = read_text(text)
    if reader.refusal != NO_REFUSAL:
        return [reader.refusal]
    if any(reader.free):
        return [FREE_UNKNOWN]
    return [1 if is_so(reader.steps, [0, 0, 0]) else 0]


def least(text):
    reader = read_text(text)
    if reader.refusal != NO_REFUSAL:
        return [reader.refusal]
    if reader.free[1] or reader.free[2]:
        return [FREE_UNKNOWN]
    # One value of x tells of all: trying more would only take time.
    if not reader.free[0]:
        return [1, 0] if is_so(reader.steps, [0, 0, 0]) else [0]
    found = least_value(0, reader.steps, [0, 0, 0], True)
    return [0] if found is None else [1, found]


def holds(text, v):
    reader = read_text(text)
    if reader.refusal != NO_REFUSAL:
        return [reader.refusal]
    return [1 if is_so(reader.steps, v) else 0]


# a and b aren't the same if some numbers of the unknowns that are free in one or the other make them differ.
def same(a, b):
    first = read_text(a)
    second = read_text(b)
    # The refusal that is told first is the lowest.
    refusal = min(first.refusal, second.refusal)
    if refusal != NO_REFUSAL:
        return [refusal]
    steps = first.steps + second.steps + [(DIFFER,)]
    for unknown in range(3):
        if first.free[unknown] or second.free[unknown]:
            steps = [(SOME, unknown, steps)]
    return [0 if is_so(steps, [0, 0, 0]) else 1]
