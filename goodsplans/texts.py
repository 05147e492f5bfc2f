"""Texts, which come and go as lists of bytes, and the names that stand in them."""

LETTERS = "abcdefghijklmnopqrstuvwxyz"
DIGITS = "0123456789"
SIGNS = " ~*|()-"
UNKNOWN = "?"
LONGEST_NAME = 12


# Bytes that mean nothing anywhere all become one sign that no name and no token has.
def text_of(codes):
    signs = {}
    for sign in LETTERS + DIGITS + SIGNS:
        signs[ord(sign)] = sign
    return "".join([signs.get(code, UNKNOWN) for code in codes])


def codes_of(text):
    return [ord(sign) for sign in text]


def is_name_sign(sign):
    return sign in LETTERS or sign in DIGITS


def is_name(text):
    if text == "" or len(text) > LONGEST_NAME:
        return False
    return text[0] in LETTERS and all([is_name_sign(sign) for sign in text])


# None stands for a text that is not names; no names at all are an empty list.
def names_of(text):
    if text == "":
        return []
    names = text.split(" ")
    if all([is_name(name) for name in names]):
        return names
    return None
