"""How a page's number is told by the style of its run."""

DIGITS = 0
SMALL_ROMAN = 1
CAPITAL_ROMAN = 2
LETTERS = 3

MOST_BY_STYLE = (99999, 3999, 3999, 702)

ROMAN_ONES = ("", "i", "ii", "iii", "iv", "v", "vi", "vii", "viii", "ix")
ROMAN_TENS = ("", "x", "xx", "xxx", "xl", "l", "lx", "lxx", "lxxx", "xc")
ROMAN_HUNDREDS = ("", "c", "cc", "ccc", "cd", "d", "dc", "dcc", "dccc", "cm")
ROMAN_THOUSANDS = ("", "m", "mm", "mmm")

ALPHABET = "abcdefghijklmnopqrstuvwxyz"


def most_of_style(style):
    return MOST_BY_STYLE[style]


def small_roman(number):
    upper_half = ROMAN_THOUSANDS[number // 1000] + ROMAN_HUNDREDS[number // 100 % 10]
    return upper_half + ROMAN_TENS[number // 10 % 10] + ROMAN_ONES[number % 10]


def letters_of(number):
    if number <= 26:
        return ALPHABET[number - 1]
    behind_z = number - 27
    return ALPHABET[behind_z // 26] + ALPHABET[behind_z % 26]


def number_text(style, number):
    if style == DIGITS:
        return str(number)
    if style == SMALL_ROMAN:
        return small_roman(number)
    if style == CAPITAL_ROMAN:
        return small_roman(number).upper()
    return letters_of(number)


# The runs of one line often ask for the same numbers, so their texts are kept,
# by style, up to the highest number yet asked for.
class Numerals:
    def __init__(self):
        self.texts = [[""], [""], [""], [""]]

    def stretch(self, style, first, last):
        texts = self.texts[style]
        while len(texts) <= last:
            texts.append(number_text(style, len(texts)))
        return texts[first:last + 1]
