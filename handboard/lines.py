"""Signs, their worths, and the check sign that ends a line."""

BLANK = 32
FIRST_LETTER = 97
FIRST_DIGIT = 48
# The blank is worth 0, the letters follow from 1 on, the digits behind them.
WORTH_OF_FIRST_LETTER = 1
WORTH_OF_FIRST_DIGIT = 27
SIGN_COUNT = 37
SHORTEST_LINE = 2
LONGEST_LINE = 36


def is_letter(byte):
    return FIRST_LETTER <= byte <= FIRST_LETTER + 25


def is_digit(byte):
    return FIRST_DIGIT <= byte <= FIRST_DIGIT + 9


def is_sign(byte):
    return byte == BLANK or is_letter(byte) or is_digit(byte)


def are_signs(given, fewest, most):
    """Whether these bytes are signs, and as many as told."""
    return fewest <= len(given) <= most and all([is_sign(byte) for byte in given])


def worth_of(sign):
    if sign == BLANK:
        return 0
    if is_letter(sign):
        return sign - FIRST_LETTER + WORTH_OF_FIRST_LETTER
    return sign - FIRST_DIGIT + WORTH_OF_FIRST_DIGIT


def sign_of(worth):
    if worth == 0:
        return BLANK
    if worth < WORTH_OF_FIRST_DIGIT:
        return worth - WORTH_OF_FIRST_LETTER + FIRST_LETTER
    return worth - WORTH_OF_FIRST_DIGIT + FIRST_DIGIT


def signs_of(text):
    return [ord(letter) for letter in text]


def weighted_sum(worths):
    """The sum of the worths, each times its place, from 1 on."""
    return sum([place * worth for place, worth in enumerate(worths, start=1)])


def check_sum(signs):
    return weighted_sum([worth_of(sign) for sign in signs])


def is_line(signs):
    """Whether these 2 to 36 signs are a line."""
    return check_sum(signs) % SIGN_COUNT == 0


def fitting_worth(total, place):
    """The worth that a sign at this place, 1 to 36, has if with the others' total the sum is divided."""
    # 37 is prime and the place is less than it, so that just one worth fits.
    fitting = [worth for worth in range(SIGN_COUNT) if (total + worth * place) % SIGN_COUNT == 0]
    return fitting[0]


def check_sign(signs):
    """The sign that makes a line of these 1 to 35 signs."""
    return sign_of(fitting_worth(check_sum(signs), len(signs) + 1))


def line_of(signs):
    return signs + [check_sign(signs)]
