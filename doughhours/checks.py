"""The bounds that more than one module asks for."""

from doughhours.errors import BadCount, BadName, BadNumber, NoBatch

LETTERS = "abcdefghijklmnopqrstuvwxyz"
LONGEST_NAME = 12
HOTTEST = 300


def check_name(name):
    if not 1 <= len(name) <= LONGEST_NAME or not all([sign in LETTERS for sign in name]):
        raise BadName(f"{name!r} is not 1 to {LONGEST_NAME} small letters")


def check_number(number, lowest, highest):
    if not lowest <= number <= highest:
        raise BadNumber(f"{number} does not lie from {lowest} to {highest}")


def check_count(count, lowest, highest):
    if not lowest <= count <= highest:
        raise BadCount(f"{count} of them, not {lowest} to {highest}")


def check_batch(batch, count):
    if not 1 <= batch <= count:
        raise NoBatch(f"no batch {batch} among {count}")
