"""The bytes that are colours, their numbers and their signs."""

SIGNS = "abcdefghijklmnopqrstuvwxyzABCDEFGHIJKLMNOPQRSTUVWXYZ0123456789"


def is_colour(byte):
    """Whether the byte is one of a to z, A to Z, 0 to 9."""
    return 97 <= byte <= 122 or 65 <= byte <= 90 or 48 <= byte <= 57


def are_colours(text):
    """Whether each byte of the text is a colour."""
    return all([is_colour(byte) for byte in text])


def colour_number(colour):
    """The number of a colour: a to z from 0, A to Z from 26, 0 to 9 from 52."""
    if colour >= 97:
        return colour - 97
    if colour >= 65:
        return colour - 65 + 26
    return colour - 48 + 52


def count_colours(rows):
    """Of each colour, by its number, how many knots the rows have."""
    counts = [0] * len(SIGNS)
    for row in rows:
        for colour in row:
            counts[colour_number(colour)] += 1
    return counts


def as_signs(colours):
    """The colours' signs as one text."""
    return "".join([SIGNS[colour_number(colour)] for colour in colours])
