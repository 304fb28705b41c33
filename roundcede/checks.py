"""What a book asks of single names and numbers before it takes them."""

from roundcede.errors import BadName, OutOfRange, UnknownHouse
from roundcede.spans import LAST_DAY

LETTERS = "abcdefghijklmnopqrstuvwxyz"
LONGEST_NAME = 8
MOST_COINS = 1000000000000
MOST_ROUNDS = 300


def check_name(name):
    small = all([sign in LETTERS for sign in name])
    if not (small and 1 <= len(name) <= LONGEST_NAME):
        raise BadName(f"{name!r} is not 1 to {LONGEST_NAME} small letters")


def check_range(number, least, most):
    if not least <= number <= most:
        raise OutOfRange(f"a number is not from {least} to {most}")


def check_day(day):
    check_range(day, 0, LAST_DAY)


def check_amount(amount):
    check_range(amount, 1, MOST_COINS)


def check_many(many):
    check_range(many, 0, MOST_ROUNDS)


def place_of(names, name):
    if name not in names:
        raise UnknownHouse(f"no house {name!r} stands")
    return names.index(name)
