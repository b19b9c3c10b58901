"""Texts: characters from the space to the tilde without the percent sign."""

FIRST_CODE = 32
LAST_CODE = 126
PERCENT = 37
# The characters in the order of their codes; a space stands in for the percent sign, which is in no text.
SIGNS = " !\"#$ &'()*+,-./0123456789:;<=>?@ABCDEFGHIJKLMNOPQRSTUVWXYZ[\\]^_`abcdefghijklmnopqrstuvwxyz{|}~"


def is_text(text):
    """Tell whether the string is a text."""
    return all([_is_code(ord(sign)) for sign in text])


def octets_of(text):
    """Return the octets of a text."""
    return [ord(sign) for sign in text]


def text_of(octets):
    """Return the text with these octets, or None if there is none."""
    if not all([_is_code(octet) for octet in octets]):
        return None
    return "".join([SIGNS[octet - FIRST_CODE] for octet in octets])


def _is_code(number):
    """Tell whether the number is the code of a character of a text."""
    return FIRST_CODE <= number <= LAST_CODE and number != PERCENT
