"""Finding values in ascending rows; what is returned can have a million of them."""


def place(row, value):
    """The index of the first item that is not below the value, the length of the row if there is none."""
    low, high = 0, len(row)
    while low < high:
        middle = (low + high) // 2
        if row[middle] < value:
            low = middle + 1
        else:
            high = middle
    return low


def holds(row, value):
    at = place(row, value)
    return at < len(row) and row[at] == value
