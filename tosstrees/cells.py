"""Tables of cells, by which a thing is drawn with one even cell and one bar."""

from tosstrees.basics import check_count, common_bottom, less, lowest, times, total
from tosstrees.errors import InvalidTable, NoTable
from tosstrees.shares import check_shares, is_number, is_thing


def is_cell(n, told):
    """Tell whether a value is a cell for n things: (thing, bar, thing)."""
    check_count(n)
    if not isinstance(told, tuple) or len(told) != 3:
        return False
    one, bar, other = told
    if not is_thing(one, n) or not is_thing(other, n):
        return False
    if not is_number(bar) or not 0 < bar[0] <= bar[1]:
        return False
    return (bar == (1, 1)) == (one == other)


def is_table(n, told):
    """Tell whether a value is a table for n things: a tuple of cells, one or more."""
    check_count(n)
    return isinstance(told, tuple) and len(told) > 0 and all(is_cell(n, cell) for cell in told)


def shares_of_table(n, table):
    """Return the tuple of the things' shares, some perhaps 0."""
    if not is_table(n, table):
        raise InvalidTable(table)
    parts = [[] for _ in range(n)]
    for one, bar, other in table:
        parts[one].append(bar)
        parts[other].append(less((1, 1), bar))
    return tuple(times(total(part), (1, len(table))) for part in parts)


def groups(shares, m):
    """Return the first of the groups that suit m cells, or None."""
    check_shares(shares)
    check_count(m)
    return first_groups(shares, m, tuple(range(len(shares))))


def first_groups(shares, m, things):
    """Return the first groups of some things that suit m cells, or None."""
    if len(things) == 0:
        return ()
    # Groups come in the order of their first things, so the first thing is in the first group,
    # and the first of its groups that leaves others that suit is that of the first answer.
    for group in groups_of_first(things):
        if suits(shares, m, group):
            behind = first_groups(shares, m, tuple(thing for thing in things if thing not in group))
            if behind is not None:
                return (group, *behind)
    return None


def groups_of_first(things):
    """Return the ascending list of the groups of some things that the first one is in."""
    found = [things[:1]]
    for thing in things[1:]:
        found = found + [(*group, thing) for group in found]
    return sorted(found)


def suits(shares, m, group):
    """Tell whether a group has an integer of m cells, no less than its things but one."""
    top, bottom = times((m, 1), total([shares[thing] for thing in group]))
    return bottom == 1 and top >= len(group) - 1


def fewest_cells(shares):
    """Return the least number of cells for which some groups suit."""
    m = 1
    while groups(shares, m) is None:
        m += 1
    return m


def table_for(shares, m):
    """Return a table of m cells with these shares, group by group of `groups`."""
    told = groups(shares, m)
    if told is None:
        raise NoTable(m)
    cells = []
    for group in told:
        cells.extend(cells_of_group(shares, m, group))
    return tuple(cells)


def cells_of_group(shares, m, group):
    """Return the list of the cells of a group of things."""
    whole = common_bottom(shares)
    left = {thing: m * shares[thing][0] * (whole // shares[thing][1]) for thing in group}
    cells = []
    while any(left.values()):
        one = min([thing for thing in left if left[thing] > 0], key=lambda thing: left[thing])
        if left[one] >= whole:
            cells.append((one, (1, 1), one))
            left[one] -= whole
        else:
            other = max([thing for thing in left if thing != one], key=lambda thing: left[thing])
            cells.append((one, lowest(left[one], whole), other))
            left[other] -= whole - left[one]
            left[one] = 0
    return cells
