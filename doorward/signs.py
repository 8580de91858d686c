"""Texts as lists of bytes."""

HEX_DIGITS = "0123456789abcdef"


def codes(text):
    """Give back the bytes of an ASCII text."""
    return [ord(sign) for sign in text]


def hex_codes(row):
    """Give back the bytes that tell a row of bytes in hexadecimal."""
    digits = []
    for byte in row:
        digits.append(ord(HEX_DIGITS[byte // 16]))
        digits.append(ord(HEX_DIGITS[byte % 16]))
    return digits


def parted(row, mark):
    """Give back the parts of a row between its marks: one more than there are marks."""
    parts = []
    part = []
    for byte in row:
        if byte == mark:
            parts.append(part)
            part = []
        else:
            part.append(byte)
    parts.append(part)
    return parts
