"""From the bytes of a text to a formula: its signs, then its parts."""

MOST_BYTES = 512
MOST_PARTS = 40
MOST_ATOMS = 11

BLANKS = (32, 9, 10, 13)
FIRST_LETTER = 97
LAST_LETTER = 122
NEVER = 48
ALWAYS = 49
NOT = 126
BOX = 91
DIAMOND = 60
LEFT = 40
RIGHT = 41
AND = 38
OR = 124
THEN = 62
SAME = 61
BOX_END = 93
DIAMOND_END = 62


class NotMade(Exception):
    pass


class TooMany(Exception):
    pass


class Formula:
    # A part is its sign and the places, in parts, of what it is made of (None where there is nothing).
    # These stand ahead of it. The formula's own place need not be the last: parts may be another's too.
    def __init__(self, plain_bytes, parts, place):
        self.plain_bytes = plain_bytes
        self.parts = parts
        self.place = place


def is_letter(sign):
    return FIRST_LETTER <= sign <= LAST_LETTER


# What can hold or not at a world whatever the other parts' signs say: letters, [] formulas, <> formulas.
def is_atom(part):
    return is_letter(part[0]) or part[0] == BOX or part[0] == DIAMOND


def stands_ahead(sign):
    return sign in (NOT, BOX, DIAMOND)


def stands_between(sign):
    return sign in (AND, OR, THEN, SAME)


# [] and <> are one sign each, which goes by its first byte from here on.
def signs_of(text):
    signs = []
    place = 0
    while place < len(text):
        byte = text[place]
        if byte == BOX or byte == DIAMOND:
            place = place + 1
            check_second(byte, text[place:place + 1])
        # A byte that is no sign is given on: it fits nowhere in a formula, and is refused there.
        if byte not in BLANKS:
            signs.append(byte)
        place = place + 1
    return signs


def check_second(first, behind):
    if first == BOX and behind != [BOX_END]:
        raise NotMade("[ without ] right behind it")
    if first == DIAMOND and behind != [DIAMOND_END]:
        raise NotMade("< without > right behind it")


# Goes sign by sign and keeps what is begun in a list, as formulas may lie deeper than calls may.
class PartsReader:
    def __init__(self, parts):
        self.parts = list(parts)
        self.places = dict([(part, place) for place, part in enumerate(parts)])
        # What is begun, outermost first: a sign, and the place of what stands left of it, if it stands between.
        self.begun = []
        # The place of the formula that ends where the reader is, None where one has yet to begin.
        self.ready = None

    def take(self, sign):
        if self.ready is None:
            self.enter(sign)
        else:
            self.go_on(sign)

    def enter(self, sign):
        if stands_ahead(sign) or sign == LEFT:
            self.begun.append((sign, None))
        elif is_letter(sign) or sign == NEVER or sign == ALWAYS:
            self.finish((sign, None, None))
        else:
            raise NotMade("no formula begins so")

    def go_on(self, sign):
        if not self.begun:
            raise NotMade("something stands behind the formula")
        last = self.begun.pop()
        if last[0] == LEFT and stands_between(sign):
            self.begun.append((sign, self.ready))
            self.ready = None
        elif stands_between(last[0]) and sign == RIGHT:
            self.finish((last[0], last[1], self.ready))
        else:
            raise NotMade("no formula goes on so")

    # With a formula end all those too that it is the rest of.
    def finish(self, part):
        self.ready = self.place_of(part)
        while self.begun and stands_ahead(self.begun[-1][0]):
            sign = self.begun.pop()[0]
            self.ready = self.place_of((sign, self.ready, None))

    # Parts that are made alike are one, so they share a place.
    def place_of(self, part):
        if part not in self.places:
            self.places[part] = len(self.parts)
            self.parts.append(part)
        return self.places[part]


def check_size(parts):
    atoms = [part for part in parts if is_atom(part)]
    if len(parts) > MOST_PARTS or len(atoms) > MOST_ATOMS:
        raise TooMany("more parts than a formula may have")


# The parts that are there already keep their places, so that what is known by place stays right.
def formula_beside(parts, text):
    reader = PartsReader(parts)
    for sign in signs_of(text):
        reader.take(sign)
    if reader.ready is None or reader.begun:
        raise NotMade("the text ends too early")
    check_size(reader.parts)
    return Formula([byte for byte in text if byte not in BLANKS], reader.parts, reader.ready)


def formula_of(text):
    return formula_beside([], text)
