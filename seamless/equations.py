"""Equations over whole numbers, solved exactly; fractions are pairs of an upper and a lower number."""


def common_measure(first, second):
    """The greatest whole number that divides both; neither is below 0."""
    while second > 0:
        rest = first % second
        first = second
        second = rest
    return first


def lowest_terms(upper, lower):
    """The fraction in lowest terms; lower is above 0."""
    measure = common_measure(abs(upper), lower)
    return (upper // measure, lower // measure)


def rounded(upper, lower):
    """The whole number nearest to the fraction, of two as near the greater; lower is above 0."""
    # A floor division goes downwards below 0 too, so halves go upwards there as well.
    return (2 * upper + lower) // (2 * lower)


def without_column(row, pivot_row, column, divisor):
    """The row with its number in the column made 0 by means of the pivot's row."""
    pivot = pivot_row[column]
    factor = row[column]
    return [(pivot * number - factor * other) // divisor for number, other in zip(row, pivot_row)]


def cleared(rows, column, divisor):
    """The rows, with 0 in the column everywhere but in the row of that number."""
    pivot_row = rows[column]
    others = []
    for at, row in enumerate(rows):
        if at == column:
            others.append(row)
        else:
            others.append(without_column(row, pivot_row, column, divisor))
    return others


def solved(rows):
    """The one solution, as fractions in lowest terms.

    Each row holds its equation's whole-number weights, then what they come to. The weights must be
    symmetric and positive definite: every leading determinant is above 0.
    """
    size = len(rows)
    left = rows
    # Each pivot is a leading determinant, so none is 0 and no rows need to change places. Divided by the
    # pivot before, every number is itself a determinant of the weights: no division leaves a rest, and in
    # the end each row has the whole determinant for its own weight.
    pivot = 1
    for column in range(size):
        left = cleared(left, column, pivot)
        pivot = left[column][column]
    return [lowest_terms(row[size], pivot) for row in left]
