"""Bytes as texts, and texts as bytes."""

SIGNS_OF_NAMES = ".0123456789ABCDEFGHIJKLMNOPQRSTUVWXYZabcdefghijklmnopqrstuvwxyz"
SIGNS_BESIDE_NAMES = "-[]!, "
FOREIGN_SIGN = "?"


def signs_by_byte():
    table = {}
    for sign in SIGNS_OF_NAMES + SIGNS_BESIDE_NAMES:
        table[ord(sign)] = sign
    return table


# A byte that no list's text has becomes a sign that none has either, so that
# its text is never mistaken for a name, a place's text or a list's.
def text_of(table, told):
    return "".join([table.get(byte, FOREIGN_SIGN) for byte in told])


def bytes_of(text):
    return [ord(sign) for sign in text]
