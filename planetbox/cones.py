"""Cones: all integers that make rows 0 and are not negative in some columns, as sums of multiples of a few.

This holds rows of integers alone: what they mean is up to the modules that ask for them.
"""

from planetbox.rows import cleared, first_with, lead_rows, made_positive, solution


def solutions(rows, width):
    """Return a list of integers that make all rows 0, of which all others are sums of fractions."""
    columns = list(range(width))
    leads = lead_rows(rows, columns)
    return [solution(leads, column, width) for column in columns if column not in leads]


def are_neighbours(high, low, rays, columns):
    """Tell whether no other ray is 0 in all those of the columns in which these two rays are.

    If there is one, the sums of the two rays are sums of other rays, too, and are not needed.
    """
    shared = [column for column in columns if high[column] == 0 and low[column] == 0]
    others = [ray for ray in rays if ray != high and ray != low]
    return all([any([ray[column] for column in shared]) for ray in others])


def cut(rays, column, columns):
    """Return rays for those sums of multiples of the rays that are not negative in one more column."""
    above = [ray for ray in rays if ray[column] > 0]
    below = [ray for ray in rays if ray[column] < 0]
    pairs = [(high, low) for high in above for low in below if are_neighbours(high, low, rays, columns)]
    return [ray for ray in rays if ray[column] >= 0] + [cleared(low, high, column) for high, low in pairs]


def generators(rows, width, columns):
    """Return a list of integers that make all rows 0 and are not negative in the columns.

    All others are sums of fractions of them, none of the fractions negative. Column by column, a line, which
    may be multiplied by negative numbers, too, becomes a ray, or, if there is none left that is not 0 in the
    column, the rays are cut.
    """
    lines = solutions(rows, width)
    rays = []
    done = []
    for column in columns:
        place = first_with(lines, column)
        if place is None:
            rays = cut(rays, column, done)
        else:
            lead = made_positive(lines.pop(place), column)
            lines = [cleared(line, lead, column) for line in lines]
            rays = [cleared(ray, lead, column) for ray in rays] + [lead]
        done.append(column)
    return rays + lines + [[-entry for entry in line] for line in lines]
