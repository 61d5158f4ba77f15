"""Rows with names: which names a row uses, which one it writes, and which rows are refused."""

from fewplaces.errors import NoValue

RECKONING = ("add", "sub", "mul")


def names_used(row):
    if row[0] == "tell":
        return [row[1]]
    if row[0] not in RECKONING:
        return []
    # A name that stands twice is still one name to find a place for.
    if row[2] == row[3]:
        return [row[2]]
    return [row[2], row[3]]


# None stands for no name, since the empty text is a name like any other.
def name_written(row):
    if row[0] == "tell":
        return None
    return row[1]


def refuse_unwritten(rows):
    written = {}
    for number, row in enumerate(rows):
        # What the row writes itself comes too late for what it uses.
        for name in names_used(row):
            if name not in written:
                raise NoValue(f"row {number} uses {name!r}, which no row before it writes")
        if name_written(row) is not None:
            written[name_written(row)] = True
