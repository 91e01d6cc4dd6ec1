"""Charts and their texts."""

from knotloom.colours import are_colours

WIDEST = 512
HIGHEST = 512
MOST_KNOTS = 65536
ROW_END = 10


def read_chart(text):
    """The chart's rows from the top, each a list of colours; None if the text is no chart's."""
    if not text or text[-1] != ROW_END:
        return None
    rows = split_rows(text)
    if not is_size(len(rows[0]), len(rows)):
        return None
    for row in rows:
        if len(row) != len(rows[0]) or not are_colours(row):
            return None
    return rows


def split_rows(text):
    """The bytes ahead of each row's end, row by row."""
    rows = []
    row = []
    for byte in text:
        if byte == ROW_END:
            rows.append(row)
            row = []
        else:
            row.append(byte)
    return rows


def write_rows(rows):
    """The text of the chart that has these rows."""
    text = []
    for row in rows:
        text.extend(row)
        text.append(ROW_END)
    return text


def is_size(width, height):
    """Whether a chart may be so wide and so high."""
    return 1 <= width <= WIDEST and 1 <= height <= HIGHEST and width * height <= MOST_KNOTS
