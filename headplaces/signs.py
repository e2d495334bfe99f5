"""Bytes as texts, and texts as bytes."""

SIGNS_OF_NAMES = ".0123456789ABCDEFGHIJKLMNOPQRSTUVWXYZabcdefghijklmnopqrstuvwxyz"
FOREIGN_SIGN = "?"


def signs_by_byte():
    table = {}
    for sign in SIGNS_OF_NAMES:
        table[ord(sign)] = sign
    return table


# A byte that no name has becomes a sign that no name has either, so that its
# text is never mistaken for a name.
def text_of(table, told):
    return "".join([table.get(byte, FOREIGN_SIGN) for byte in told])


def bytes_of(text):
    return [ord(sign) for sign in text]
