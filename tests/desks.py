"""What the desk's tests share: desks that were told rows, and what desks answer."""

from blockfall.desk import Desk
from blockfall.errors import FallError


def rows_of(text):
    """The desk's rows that tell a program's text and have it read."""
    return ["row " + row for row in text.split("\n")] + ["read"]


def told_desk(*rows):
    desk = Desk()
    for row in rows:
        desk.say(row)
    return desk


def reading_desk(text, *rows):
    return told_desk(*rows_of(text), *rows)


def answer(desk, row):
    """The desk's answer, or the name of what it refuses by."""
    try:
        return desk.say(row)
    except FallError as refusal:
        return type(refusal).__name__
