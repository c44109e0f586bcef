"""How what plays and all that fades share the figure, in whole fractions."""


def common_divisor(first, second):
    while second > 0:
        rest = first % second
        first = second
        second = rest
    return first


def in_lowest_terms(above, below):
    divisor = common_divisor(above, below)
    return (above // divisor, below // divisor)


def shares_of(fades):
    """Pairs (above, below): of what plays, then of each that fades, newest first; they are one together."""
    shares = []
    left = (1, 1)
    for fade in fades:
        below = left[1] * fade.takes
        shares.append(in_lowest_terms(left[0] * fade.had, below))
        left = in_lowest_terms(left[0] * (fade.takes - fade.had), below)
    # Nothing is older than what faded out first, so all that's left is its own.
    shares.append(left)
    return shares
