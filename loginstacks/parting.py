"""Parting rows of words, one word for each test: rows that are equal cannot be parted."""

from loginstacks.runs import OUTCOMES


def grouped(rows):
    """The list of the lists of the indexes of rows that are equal, in the order of their first ones."""
    found = {}
    for index, row in enumerate(rows):
        found.setdefault(row, []).append(index)
    return list(found.values())


def best_test(rows):
    """The index of the first test whose word leaves the fewest rows in the worst case."""
    most = [max([column.count(word) for word in OUTCOMES]) for column in zip(*rows)]
    return most.index(min(most))


def fewest_parting(rows):
    """How many tests part all rows that differ in the worst case, if each is chosen as well as can be."""
    different = list({row: True for row in rows})
    # Tests by which the rows are parted in the same way are as good as one another.
    columns = list({column: True for column in zip(*different)})
    return fewest_for(tuple(range(len(different))), columns, {})


def fewest_for(left, columns, numbers):
    """How many tests part the rows with the indexes that are left; numbers has what was found before, and grows."""
    if len(left) == 1:
        return 0
    if left not in numbers:
        found = []
        for column in columns:
            parts = [tuple([index for index in left if column[index] == word]) for word in OUTCOMES]
            if () not in parts:
                found.append(1 + max([fewest_for(part, columns, numbers) for part in parts]))
        numbers[left] = min(found)
    return numbers[left]
