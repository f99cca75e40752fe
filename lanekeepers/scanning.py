"""Texts are read from left to right, piece by piece: at the first character that can't stand where it does,
or at the end where something is missing, InvalidText tells the wrong position.

Each piece can be led on to a whole text as long as its next characters are not known, so the first character that
is not awaited is the first one with which the text can be led on to no readable one."""

from lanekeepers.errors import InvalidText

FIGURES = "0123456789"
MOST_FIGURES = 6


class Scanner:
    """A text, and how far it is read."""

    def __init__(self, text):
        self._text = text
        self._at = 0

    def next_sign(self):
        """The next character, spaces passed over; an empty string at the end."""
        while self._text[self._at:self._at + 1] == " ":
            self._at += 1
        return self._text[self._at:self._at + 1]

    def meets(self, sign):
        """Whether this is the next sign; if so, it is passed."""
        if self.next_sign() != sign:
            return False
        self._at += 1
        return True

    def take(self, sign):
        if not self.meets(sign):
            raise InvalidText(self._at)

    def take_word(self, word):
        """No space may stand within a word."""
        self.take(word[0])
        for sign in word[1:]:
            if self._text[self._at:self._at + 1] != sign:
                raise InvalidText(self._at)
            self._at += 1

    def take_number(self):
        if not is_figure(self.next_sign()):
            raise InvalidText(self._at)
        start = self._at
        self._at += 1
        # A numeral that begins with 0 is this figure alone.
        while self._text[start] != "0" and self._at < start + MOST_FIGURES and self._is_at_figure():
            self._at += 1
        return int(self._text[start:self._at])

    def take_end(self):
        if self.next_sign() != "":
            raise InvalidText(self._at)

    def _is_at_figure(self):
        return is_figure(self._text[self._at:self._at + 1])


def is_figure(sign):
    return sign != "" and sign in FIGURES


def whole(text, take_piece):
    """What the function takes from the scanner of the text, if that is all there is."""
    if not isinstance(text, str):
        raise InvalidText(None)
    scanner = Scanner(text)
    told = take_piece(scanner)
    scanner.take_end()
    return told


def take_row(scanner, between, take_piece):
    """The list of one piece, or several ones with this sign between."""
    told = [take_piece(scanner)]
    while scanner.meets(between):
        told.append(take_piece(scanner))
    return told


def take_lanes(scanner):
    return take_row(scanner, ",", take_lane)


def take_lane(scanner):
    one = scanner.take_number()
    scanner.take("-")
    return one, scanner.take_number()


def take_book(scanner):
    return take_row(scanner, ";", take_alternative)


def take_alternative(scanner):
    places = scanner.take_number()
    bounds = []
    while scanner.meets(","):
        bounds.append(take_bound(scanner))
    return places, bounds


def take_bound(scanner):
    """A bound with an origin, or a target, or both."""
    most = scanner.take_number()
    if not scanner.meets("<"):
        scanner.take(">")
        return None, scanner.take_number(), most
    origin = scanner.take_number()
    target = scanner.take_number() if scanner.meets(">") else None
    return origin, target, most


def take_web(scanner):
    """A tuple of the lanes and the books."""
    lanes = take_lanes(scanner)
    scanner.take("|")
    return lanes, take_row(scanner, "|", take_book)


def take_carts(scanner):
    return [] if scanner.meets("-") else take_row(scanner, ",", take_cart)


def take_cart(scanner):
    yard = scanner.take_number()
    scanner.take(":")
    start, end = take_start_and_end(scanner)
    return yard, start, end


def take_start_and_end(scanner):
    start = scanner.take_number()
    scanner.take(">")
    return start, scanner.take_number()


def take_steps(scanner):
    return [] if scanner.meets("-") else take_row(scanner, ",", take_step)


def take_step(scanner):
    if scanner.next_sign() == "i":
        scanner.take_word("in")
        start, end = take_start_and_end(scanner)
        return "in", start, end
    scanner.take_word("on")
    yard, start, end = take_cart(scanner)
    return "on", yard, start, end


def take_load(scanner):
    """The tuples of a load, each told as a bound with both an origin and a target."""
    return [] if scanner.meets("-") else take_row(scanner, ",", take_load_entry)


def take_load_entry(scanner):
    many = scanner.take_number()
    scanner.take("<")
    origin, target = take_start_and_end(scanner)
    return origin, target, many


# By the words that tell, in the tables of commands, what is written there.
TEXTS = {"LANES": take_lanes, "TEXT": take_web, "BOOK": take_book, "CARTS": take_carts, "STEPS": take_steps,
         "LOAD": take_load}


def told_by(kind, text):
    """What the text of this kind tells."""
    take_piece = TEXTS[kind]
    return whole(text, take_piece)


def is_readable(kind, text):
    try:
        told_by(kind, text)
    except InvalidText:
        return False
    return True
