"""Texts, which are lists of bytes, cut into tokens."""

from truthstore.faults import Fault, NO_TOKEN, TOO_LONG

MOST_BYTES = 4096
MOST_WORD_SIGNS = 16
GREATEST_NUMBER = 1000000000
GREATEST_DIGITS = 10

BLANKS = (32, 9, 10)
LINE_END = 10
REMARK = 35
MINUS = 45
GREATER = 62
ZERO = 48

DIGITS = "0123456789"
GREAT_LETTERS = "ABCDEFGHIJKLMNOPQRSTUVWXYZ"
SMALL_LETTERS = "abcdefghijklmnopqrstuvwxyz"
SIGNS = "={}()[],;:/|"
ARROW = "->"

WORD = "word"
NUMBER = "number"
SIGN = "sign"
END = "end"

NOT_NAMES = (
    "chance", "budget", "def", "let", "observe", "tell", "table", "net", "flag", "num", "if", "flip", "pick",
    "uniform", "given", "weigh", "true", "false",
)


class Token:
    """A token's kind, what it holds, its first byte's place and the place right behind it."""

    def __init__(self, kind, held, place, behind):
        self.kind = kind
        self.held = held
        self.place = place
        self.behind = behind

    def is_name(self):
        """Whether it is a word that may be a name."""
        return self.kind == WORD and self.held not in NOT_NAMES


def tokens_of(text):
    """All tokens of the text, and behind them one of the kind END at the text's length."""
    if len(text) > MOST_BYTES:
        raise Fault(TOO_LONG, MOST_BYTES)
    found = []
    place = skip_blanks(text, 0)
    while place < len(text):
        token = token_at(text, place)
        found.append(token)
        place = skip_blanks(text, token.behind)
    found.append(Token(END, "", len(text), len(text)))
    return found


def skip_blanks(text, place):
    """The first place from here on that is no blank and in no remark, or the text's length."""
    in_remark = False
    while place < len(text):
        byte = text[place]
        if byte == LINE_END:
            in_remark = False
        elif byte == REMARK:
            in_remark = True
        elif not in_remark and byte not in BLANKS:
            return place
        place += 1
    return place


def token_at(text, place):
    """The token whose first byte is here; a fault if none is."""
    byte = text[place]
    follower = text[place + 1] if place + 1 < len(text) else -1
    if is_digit(byte):
        return number_at(text, place, False)
    if word_sign(byte) != "":
        return word_at(text, place)
    if byte == MINUS and follower == GREATER:
        return Token(SIGN, ARROW, place, place + 2)
    if byte == MINUS:
        return number_at(text, place, True)
    for sign in SIGNS:
        if ord(sign) == byte:
            return Token(SIGN, sign, place, place + 1)
    raise Fault(NO_TOKEN, place)


def word_at(text, place):
    """The word that begins here."""
    signs = []
    behind = place
    while behind < len(text) and word_sign(text[behind]) != "":
        signs.append(word_sign(text[behind]))
        behind += 1
    if len(signs) > MOST_WORD_SIGNS:
        raise Fault(NO_TOKEN, place)
    return Token(WORD, "".join(signs), place, behind)


def number_at(text, place, below_zero):
    """The number that begins here, with a minus sign first if it is below zero."""
    first = place + 1 if below_zero else place
    behind = first
    while behind < len(text) and is_digit(text[behind]):
        behind += 1
    digits = text[first:behind]
    if not are_digits_allowed(digits, below_zero):
        raise Fault(NO_TOKEN, place)
    size = size_of(digits)
    if size > GREATEST_NUMBER:
        raise Fault(NO_TOKEN, place)
    return Token(NUMBER, -size if below_zero else size, place, behind)


def are_digits_allowed(digits, below_zero):
    """Whether these are digits of a number, its greatness left aside but for too many digits."""
    if len(digits) == 0 or len(digits) > GREATEST_DIGITS:
        return False
    if digits[0] == ZERO:
        return len(digits) == 1 and not below_zero
    return True


def size_of(digits):
    """The number that is written with these digits."""
    size = 0
    for digit in digits:
        size = size * 10 + digit - ZERO
    return size


def is_digit(byte):
    """Whether the byte is a digit's."""
    return ZERO <= byte < ZERO + len(DIGITS)


def word_sign(byte):
    """The letter or digit whose byte it is, or an empty text."""
    for signs in (DIGITS, GREAT_LETTERS, SMALL_LETTERS):
        offset = byte - ord(signs[0])
        if 0 <= offset < len(signs):
            return signs[offset]
    return ""
