"""Fractions, told by two whole numbers."""


# The fraction's two numbers with nothing in common; lower is above 0, upper not below 0.
def lowest(upper, lower):
    common = upper
    rest = lower
    while rest != 0:
        further = common % rest
        common = rest
        rest = further
    return [upper // common, lower // common]
