"""The least call of a row: the fewest words, then the shortest text, then the first text byte by byte.

An item or a call is kept as a tuple: its words, how long its text is, its text. So the lesser tuple is the lesser call.
A row is a text of its colours' signs. A call is its first item and the least call of what is behind that, so the row
is gone through from its end, and what is known of a piece serves wherever the same piece stands.
"""


def least_call(row):
    """The text of the least call of the row."""
    times = count_times(row)
    firsts = find_firsts(times)
    known = {}
    for start in range(len(row) - 1, -1, -1):
        first_items = {start + 1: make_call(1, row[start])}
        add_repeats(first_items, start, 1, times[start][1], 2, row[start])
        for end in range(start + 1, len(row) + 1):
            if firsts[end] <= start:
                piece = row[start:end]
                if piece not in known:
                    known[piece] = choose_least(row, end, first_items, known)
                call = known[piece]
                # A piece that is said by one item needs no group: a greater count of that item has fewer words.
                if call != first_items.get(end):
                    size = end - start
                    add_repeats(first_items, start, size, times[start][size], 2 + call[0], "(" + call[2] + ")")
    return known[row][2]


def make_call(words, text):
    """An item or a call as it is kept here."""
    return (words, len(text), text)


def count_times(row):
    """For each start and each size: how often the piece of that size stands there, one behind another."""
    # By size: from the start on, how many knots are the same as the one so many places behind them.
    alike = [0] * (len(row) + 1)
    times = []
    for start in range(len(row) - 1, -1, -1):
        for size in range(1, len(row) - start):
            alike[size] = alike[size] + 1 if row[start] == row[start + size] else 0
        times.append([0] + [1 + alike[size] // size for size in range(1, len(row) + 1)])
    times.reverse()
    return times


def find_firsts(times):
    """For each end: the first start of a piece up to there whose call is needed, as it is repeated or is the row."""
    # Where no piece's call is needed, the row's length stands: no start is so great.
    firsts = [len(times)] * len(times) + [0]
    for start in range(len(times) - 1, -1, -1):
        for size in range(2, len(times) - start):
            if times[start][size] > 1:
                firsts[start + size] = start
    return firsts


def add_repeats(first_items, start, size, times, words, repeated):
    """Add, by their ends, the items that say a piece twice, three times, up to so many times."""
    for count in range(2, times + 1):
        item = make_call(words, f"{count}*{repeated}")
        end = start + count * size
        first_items[end] = min(item, first_items.get(end, item))


def choose_least(row, end, first_items, known):
    """The least call up to the end that begins with one of the items."""
    least = first_items.get(end)
    for stop in first_items:
        if stop < end:
            item = first_items[stop]
            rest = known[row[stop:end]]
            words = item[0] + rest[0]
            # Most are longer in words: their texts needn't be put together.
            if least is None or words <= least[0]:
                call = make_call(words, item[2] + " " + rest[2])
                least = call if least is None else min(least, call)
    return least
