"""What settings, tables' lines and rows' lines do to the tables."""

from plainsettings.kinds import BY_KEYS, BY_LINE, LIST, ON_THE_WAY, WRITTEN, empty_list, empty_table
from plainsettings.refusals import CannotBe


def put_setting(table, keys, value):
    """Puts value where the keys of a setting lead, from table on."""
    holder = table
    for key in keys[:-1]:
        holder = through_setting_key(holder, key)
    if keys[-1] in holder.content:
        raise CannotBe()
    holder.content[keys[-1]] = value


def through_setting_key(holder, key):
    """The table that a setting's key, not the last, leads to."""
    found = holder.content.setdefault(key, empty_table(BY_KEYS))
    if found.origin != BY_KEYS:
        raise CannotBe()
    return found


def table_of_line(whole, keys):
    """The table that a table's line stands for."""
    holder = before_last(whole, keys)
    found = holder.content.setdefault(keys[-1], empty_table(ON_THE_WAY))
    if found.origin != ON_THE_WAY:
        raise CannotBe()
    # From now on no other line may stand for it.
    found.origin = BY_LINE
    return found


def row_of_line(whole, keys):
    """The table that a row's line adds."""
    holder = before_last(whole, keys)
    rows = holder.content.setdefault(keys[-1], empty_list(BY_LINE))
    if rows.kind != LIST or rows.origin != BY_LINE:
        raise CannotBe()
    row = empty_table(BY_LINE)
    rows.content.append(row)
    return row


def before_last(whole, keys):
    """The table that the keys of a table's or a row's line lead to, but for the last."""
    holder = whole
    for key in keys[:-1]:
        holder = through_line_key(holder, key)
    return holder


def through_line_key(holder, key):
    """The table that such a line's key, not the last, leads to."""
    found = holder.content.setdefault(key, empty_table(ON_THE_WAY))
    # Whatever stands behind an = is of this origin: plain values, lists and braces.
    if found.origin == WRITTEN:
        raise CannotBe()
    if found.kind == LIST:
        return found.content[-1]
    return found
