"""What the calls have in common: the numbers of refusals, ranges, sets, rows that grow and shrink."""

NONE_SUCH = -2
NO_ROLLS = -6
NOT_AS_TOLD = -22
FULL = -28
CANNOT = -33
NOT_BEGUN = -61


def within(number, least, most):
    return least <= number and number <= most


def goes_into(part, whole):
    return part != 0 and whole % part == 0


# Sets are whole numbers: bit n stands for what is numbered n.
def in_set(chosen, number):
    return (chosen >> number) & 1 == 1


def add_one(row, most, new):
    if len(row) >= most:
        return [FULL]
    row.append(new)
    return [len(row) - 1]


def remove_one(row, number):
    if number >= len(row):
        return [NONE_SUCH]
    row.pop(number)
    return [len(row)]


def all_but(row, number):
    return row[:number] + row[number + 1:]


def counted(row):
    return [len(row)] + row
