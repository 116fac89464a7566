"""Exact elimination in rows of integers."""

from math import gcd, lcm


def without_divisor(row):
    """Return the row divided by the greatest common divisor of its entries."""
    divisor = 0
    for entry in row:
        divisor = gcd(divisor, entry)
    if divisor < 2:
        return row
    return [entry // divisor for entry in row]


def times(row, others):
    """Return the sum of the products of the entries of two rows."""
    return sum([entry * other for entry, other in zip(row, others)])


def first_with(rows, column):
    """Return the place of the first row that is not 0 in the column, or None."""
    for place, row in enumerate(rows):
        if row[column] != 0:
            return place
    return None


def made_positive(row, column):
    """Return the row, or its negative, so that it is positive in the column."""
    if row[column] > 0:
        return row
    return [-entry for entry in row]


def cleared(row, lead, column):
    """Return a multiple of the row less a multiple of the lead, so that it is 0 in the column.

    The lead is positive in the column, so the row keeps the signs of the entries where the lead has 0.
    """
    if row[column] == 0:
        return row
    return without_divisor([lead[column] * entry - row[column] * other for entry, other in zip(row, lead)])


def lead_rows(rows, columns):
    """Return a dict of lead rows by their columns, looked for in the order of the columns.

    Each lead row is a sum of multiples of the rows. It is positive in its own column, and 0 in the
    columns of the other lead rows and in each earlier column that has no lead row.
    """
    left = list(rows)
    leads = {}
    for column in columns:
        place = first_with(left, column)
        if place is not None:
            lead = made_positive(left.pop(place), column)
            left = [cleared(row, lead, column) for row in left]
            leads = {other: cleared(leads[other], lead, column) for other in list(leads)}
            leads[column] = lead
    return leads


def solution(leads, free, width):
    """Return the integers that make all lead rows 0, with 0 in all columns without a lead row but one.

    They are positive in this free column, and have no common divisor greater than 1.
    """
    scale = 1
    for column, lead in leads.items():
        scale = lcm(scale, lead[column])
    answer = [0] * width
    answer[free] = scale
    for column, lead in leads.items():
        answer[column] = -lead[free] * scale // lead[column]
    return without_divisor(answer)
