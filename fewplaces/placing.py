"""Rows with names put onto places, and where the number of each needed name lies behind each row."""

from fewplaces.living import living
from fewplaces.room import Room, refuse_too_few
from fewplaces.rows import name_written, names_used


def placed(rows, places):
    return rows_and_walk(rows, places)[0]


def walk_of(rows, places):
    return rows_and_walk(rows, places)[1]


def rows_and_walk(rows, places):
    # The order matters: NoValue, which `living` refuses with, goes before TooFew.
    needed_behind = living(rows)
    refuse_too_few(rows, places)
    room = Room(places)
    walk = []
    for number, row in enumerate(rows):
        needed = needed_behind[number]
        put_row(row, room, needed, rows[number + 1:])
        walk.append((len(room.made), [room.lying(name) for name in needed]))
    return (room.made, walk)


def put_row(row, room, needed, later):
    fetch_used(names_used(row), room, later)
    used_at = dict(room.place_of)
    written = name_written(row)
    # The row uses before it writes: what it uses for the last time leaves its place to what it writes.
    room.keep_only([name for name in needed if name != written])
    if written is None:
        room.made.append(("tell", used_at[row[1]]))
        return
    place = room.empty_place([], later)
    room.made.append(writing_row(row, place, used_at))
    if written in needed:
        room.place_of[written] = place


def fetch_used(used, room, later):
    for name in used:
        if name not in room.place_of:
            room.fetch(name, room.empty_place(used, later))


def writing_row(row, place, used_at):
    if row[0] == "take":
        return ("take", place)
    if row[0] == "set":
        return ("set", place, row[2])
    return (row[0], place, used_at[row[2]], used_at[row[3]])
