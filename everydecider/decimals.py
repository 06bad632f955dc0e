"""Integers in decimal notation, without leading zeros."""

# Python refuses to write out more than 4300 digits at once, so integers are
# written in pieces.
_PIECE = 10 ** 60
_PIECE_DIGITS = 60
_DIGITS = "0123456789"


def integer_text(number):
    """The text of an integer of any size."""
    sign = "-" if number < 0 else ""
    rest = abs(number)
    pieces = []
    while rest >= _PIECE:
        rest, piece = divmod(rest, _PIECE)
        pieces.append(str(piece).zfill(_PIECE_DIGITS))
    pieces.append(str(rest))
    return sign + "".join(pieces[::-1])


def read_integer(word):
    """The integer with a text, or None if the word is not such a text."""
    digits = word.removeprefix("-")
    if digits == "" or any([letter not in _DIGITS for letter in digits]):
        return None
    number = int(word)
    # Leading zeros and -0 are lost when the integer is written again.
    return number if integer_text(number) == word else None
