"""Lists in ascending order."""


def first_from(ascending, thing):
    """The index of the first item that is not less than something, or the length of the list."""
    low = 0
    high = len(ascending)
    while low < high:
        middle = (low + high) // 2
        if ascending[middle] < thing:
            low = middle + 1
        else:
            high = middle
    return low
