"""What stands in texts: signs, words, numbers and measures."""

from measuredterms.ratios import lowest, power

# The signs of the bytes 32 to 126. A ? stands for each that has no meaning in any text.
SIGNS = (
    " ???????()*+?-./0123456789??<=?"
    "????????????????????????????[?]^_?"
    "abcdefghijklmnopqrstuvwxyz????"
)
SMALL_LETTERS = "abcdefghijklmnopqrstuvwxyz"
DIGITS = "0123456789"
WORD_SIGNS = "abcdefghijklmnopqrstuvwxyz0123456789_"
TAKEN_WORDS = (
    "fn", "let", "rec", "if", "cons", "case", "pair", "fst", "snd", "fold", "root", "floor", "rest",
    "true", "false", "nil", "truth", "num", "list", "base", "unit", "def", "fun", "in", "then", "else",
    "match", "with", "and", "or", "not",
)
LONGEST_WORD = 12
LONGEST_ROW = 12
TERM_NUMBER_BOUND = 1000000000000
LONGEST_QUANTITY_NUMBER = 90
RATIO_BOUND = 10000000000000000000000000000000000000000
LONGEST_FACTOR_ROW = 6
FACTOR_BOUND = 1000000


def text_of(row):
    """The text whose bytes stand in the row, a sign for each byte."""
    return "".join([SIGNS[byte - 32] if 32 <= byte <= 126 else "?" for byte in row])


def bytes_of(text):
    return [ord(sign) for sign in text]


def row_end(text, start, signs):
    """Where the row of such signs that begins at start ends."""
    end = start
    while end < len(text) and text[end] in signs:
        end += 1
    return end


def word_end(text, start):
    return row_end(text, start, WORD_SIGNS)


def is_measure_name(text):
    if not 0 < len(text) <= LONGEST_WORD:
        return False
    return text[0] in SMALL_LETTERS and word_end(text, 0) == len(text)


def is_name(text):
    return is_measure_name(text) and text not in TAKEN_WORDS


def number_end(text, start):
    """Where the number text without sign that begins at start ends; start itself if there is none."""
    end = row_end(text, start, DIGITS)
    if start < end < len(text) - 1 and text[end] in "/." and text[end + 1] in DIGITS:
        return row_end(text, end + 1, DIGITS)
    return end


def written_fraction(text):
    """Numerator and denominator as a number text without sign writes them; the denominator may be 0."""
    if "/" in text:
        top, mark, bottom = text.partition("/")
        return (int(top), int(bottom))
    whole, mark, decimals = text.partition(".")
    return (int(whole + decimals), power(10, len(decimals)))


def lowest_written(text, bound):
    top, bottom = written_fraction(text)
    if bottom == 0:
        return None
    return lowest(top, bottom, bound)


def term_fraction(text):
    """What a number text of a term means, in lowest terms; None if it is not good."""
    for row in text.replace("/", ".").split("."):
        if len(row) > LONGEST_ROW:
            return None
    return lowest_written(text, TERM_NUMBER_BOUND)


def quantity_fraction(text):
    """What the number text of a unit's quantity means, in lowest terms; None if it is none."""
    if len(text) > LONGEST_QUANTITY_NUMBER:
        return None
    plain = text[1:] if text.startswith("-") else text
    if plain == "" or number_end(plain, 0) != len(plain):
        return None
    fraction = lowest_written(plain, RATIO_BOUND)
    if fraction is None or plain == text:
        return fraction
    return (-fraction[0], fraction[1])


def factor_fraction(text):
    """What the text of a base's factor means, in lowest terms; None if it is none."""
    rows = text.split("/")
    if len(rows) > 2:
        return None
    for row in rows:
        if not row.isdigit() or len(row) > LONGEST_FACTOR_ROW:
            return None
    fraction = lowest_written(text, FACTOR_BOUND)
    if fraction is None or fraction[0] == 0:
        return None
    return fraction


def written_power(text):
    digits = text[1:] if text.startswith("-") else text
    if not digits.isdigit() or len(digits) > 2:
        return None
    return int(text)


def measure_factor(text):
    """A factor of a measure, a / in front of it or not, as its name and its power; None if it is none."""
    turned = text.startswith("/")
    plain = text[1:] if turned else text
    if plain == "1":
        return ("", 0)
    name, mark, written = plain.partition("^")
    exponent = 1 if mark == "" else written_power(written)
    if exponent is None or not is_measure_name(name):
        return None
    return (name, -exponent if turned else exponent)


def measure_factors(text):
    """The factors of a measure text, the factor 1 with an empty name; None if it is no measure text."""
    factors = []
    # No factor begins with / by itself, so a / can be handed to the factor behind it.
    for piece in text.replace("/", "./").split("."):
        factor = measure_factor(piece)
        if factor is None:
            return None
        factors.append(factor)
    return factors
