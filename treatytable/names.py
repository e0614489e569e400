"""Bytes, texts and names."""

# No word of a treaty has a byte 37, so a question mark may stand in its place: such a word is wrong either way.
PRINTABLE = (
    " !\"#$?&'()*+,-./0123456789:;<=>?@ABCDEFGHIJKLMNOPQRSTUVWXYZ[\\]^_`abcdefghijklmnopqrstuvwxyz{|}~"
)
FIRST_PRINTABLE = 32
LAST_PRINTABLE = 126


def are_bytes(numbers, most):
    """Tell whether these are bytes, and not more of them than most."""
    return len(numbers) <= most and all([0 <= number <= 255 for number in numbers])


def are_printable(numbers):
    return all([FIRST_PRINTABLE <= number <= LAST_PRINTABLE for number in numbers])


def text_of(numbers):
    """Give the text of printable bytes."""
    return "".join([PRINTABLE[number - FIRST_PRINTABLE] for number in numbers])


def bytes_of(text):
    return [ord(sign) for sign in text]


def is_great(number):
    return 65 <= number <= 90


def is_small(number):
    return 97 <= number <= 122


def is_name(numbers):
    """Tell whether these bytes are a great letter and 1 to 15 small ones."""
    if not 2 <= len(numbers) <= 16:
        return False
    return is_great(numbers[0]) and all([is_small(number) for number in numbers[1:]])
