"""Rows of numbers, with how many there are ahead of them."""


def counted(row):
    """A row with how many numbers it has ahead."""
    return [len(row)] + row


def rows_at(numbers, place, count):
    """So many counted rows that stand at a place, and the place behind them."""
    rows = []
    while len(rows) < count:
        start = place + 1
        place = start + numbers[place]
        rows.append(numbers[start:place])
    return rows, place
