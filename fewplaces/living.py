"""What is needed: the names whose numbers are needed behind each row, and how many at once."""

from fewplaces.rows import name_written, names_used, refuse_unwritten


def living(rows):
    refuse_unwritten(rows)
    # What is needed behind a row hangs on the later rows alone, so the walk goes backwards.
    needed = {}
    behind = []
    for row in reversed(rows):
        behind.append(sorted(needed))
        needed = needed_ahead(row, needed)
    behind.reverse()
    return behind


def needed_ahead(row, needed):
    ahead = dict(needed)
    # A row uses before it writes: seen backwards, the write comes first.
    if name_written(row) is not None:
        ahead.pop(name_written(row), None)
    for name in names_used(row):
        ahead[name] = True
    return ahead


def most_at_once(rows):
    most_row = None
    most_names = []
    for number, needed in enumerate(living(rows)):
        names = names_at_once(rows[number], needed)
        # Only a greater count takes over, so the first of equals stays.
        if len(names) > len(most_names):
            most_row = number
            most_names = names
    return (most_row, most_names)


def names_at_once(row, needed):
    written = name_written(row)
    if written is None or written in needed:
        return list(needed)
    return sorted(needed + [written])
