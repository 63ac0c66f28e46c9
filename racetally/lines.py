"""One line of a series' text, read from its codes: is it formed, and what does it say."""

BLANK = 32
LETTER_A = 97
DIGIT_0 = 48
LETTERS = "abcdefghijklmnopqrstuvwxyz"
DIGITS = "0123456789"

LONGEST_NAME = 12
LONGEST_NUMBER = 2

# What follows each word: has the line a boat's name, and the limits of each number behind it.
FORMS = {
    "boat": (True, ()),
    "out": (False, ((1, 32), (0, 31))),
    "race": (False, ()),
    "place": (True, ((1, 64), (1, 64))),
    "miss": (True, ()),
    "dis": (True, ()),
    "avg": (True, ()),
    "pen": (True, ((1, 99),)),
}


class Line:
    """A formed line; its name is empty where its word has none."""

    def __init__(self, word, name, numbers):
        self.word = word
        self.name = name
        self.numbers = numbers


def sign_of(code):
    """The sign that a code stands for, or None where no line may hold it."""
    if code == BLANK:
        return " "
    if LETTER_A <= code < LETTER_A + len(LETTERS):
        return LETTERS[code - LETTER_A]
    if DIGIT_0 <= code < DIGIT_0 + len(DIGITS):
        return DIGITS[code - DIGIT_0]
    return None


def parts_of(codes):
    """What stands between the blanks, or None where a sign is foreign to every line."""
    signs = []
    for code in codes:
        sign = sign_of(code)
        if sign is None:
            return None
        signs.append(sign)
    # Splitting at each single blank leaves an empty part where one is too many, and no form takes that.
    return "".join(signs).split(" ")


def is_name(part):
    # Only letters, digits and blanks come this far, and blanks are split away: the length is what's left to ask.
    return 1 <= len(part) <= LONGEST_NAME


def number_of(part, limits):
    """The number within its limits, or None where it isn't formed so."""
    # The length is asked first, for Python won't make a number of thousands of digits.
    if len(part) > LONGEST_NUMBER or not part.isdigit():
        return None
    if len(part) > 1 and part[0] == "0":
        return None
    number = int(part)
    if limits[0] <= number <= limits[1]:
        return number
    return None


def numbers_of(parts, all_limits):
    """The numbers of the parts, or None where there are more or fewer than limits, or one isn't formed."""
    if len(parts) != len(all_limits):
        return None
    numbers = []
    for part, limits in zip(parts, all_limits):
        number = number_of(part, limits)
        if number is None:
            return None
        numbers.append(number)
    return numbers


def read_line(codes):
    """The line that these codes (without the line feed) form, or None where it isn't formed."""
    parts = parts_of(codes)
    if parts is None or parts[0] not in FORMS:
        return None
    word = parts[0]
    name = ""
    rest = parts[1:]
    if FORMS[word][0]:
        if len(rest) == 0 or not is_name(rest[0]):
            return None
        name = rest[0]
        rest = rest[1:]
    numbers = numbers_of(rest, FORMS[word][1])
    if numbers is None:
        return None
    return Line(word, name, numbers)
