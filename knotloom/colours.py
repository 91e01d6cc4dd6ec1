"""The bytes that are colours."""


def is_colour(byte):
    """Whether the byte is one of a to z, A to Z, 0 to 9."""
    return 97 <= byte <= 122 or 65 <= byte <= 90 or 48 <= byte <= 57


def are_colours(text):
    """Whether each byte of the text is a colour."""
    return all([is_colour(byte) for byte in text])
