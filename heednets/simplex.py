"""The greatest value of a sum within bounds, exactly: the simplex method in whole numbers."""
from heednets.ratios import ratio


def raising_column(table, heads):
    """The column of the least variable that raises the goal; None if nothing raises it any more."""
    raising = [(head, column) for column, head in enumerate(heads) if table[-1][column] < 0]
    return min(raising)[1] if raising else None


def tightest_line(table, sides, column):
    """The line that bounds a column's variable most, of several the one with the least variable."""
    found = None
    for line, side in enumerate(sides):
        part = table[line][column]
        if part <= 0:
            continue
        if found is None:
            found = line
            continue
        over = table[line][-1] * table[found][column] - table[found][-1] * part
        if over < 0 or (over == 0 and side < sides[found]):
            found = line
    return found


def exchanged(table, line, column, times):
    """The table, until now all times one number, when the variables of a line and a column change places."""
    pivot = table[line]
    by = pivot[column]
    changed = []
    for at, row in enumerate(table):
        part = row[column]
        if at == line:
            found = list(pivot)
            found[column] = times
        else:
            # Nothing is left over: what stands in the table are determinants of the rows that were given.
            found = [(by * here - part * there) // times for here, there in zip(row, pivot)]
            found[column] = -part
        changed.append(found)
    return changed


def best_within(goal, rows, bounds):
    """(BEST, NUMBERS, PRICES), for whole numbers, bounds from 0 on.

    NUMBERS, from 0 on, make the sum of GOAL times them as great as can be, BEST, while each row times them is up to
    its bound; that must have an end. PRICES, from 0 on, one for each row, show that there is no more: the rows times
    them are the goal or more at each place, the bounds times them BEST.
    """
    many = len(goal)
    table = [row + [bound] for row, bound in zip(rows, bounds)]
    table.append([-part for part in goal] + [0])
    heads, sides = list(range(many)), list(range(many, many + len(rows)))
    times = 1
    # Always the least variables: so no table comes again (Bland 1977).
    column = raising_column(table, heads)
    while column is not None:
        line = tightest_line(table, sides, column)
        by = table[line][column]
        table = exchanged(table, line, column, times)
        times = by
        heads[column], sides[line] = sides[line], heads[column]
        column = raising_column(table, heads)
    worths = {side: row[-1] for side, row in zip(sides, table)}
    prices = {head: price for head, price in zip(heads, table[-1])}
    return (ratio(table[-1][-1], times), [ratio(worths.get(name, 0), times) for name in range(many)],
            [ratio(prices.get(many + at, 0), times) for at in range(len(rows))])
