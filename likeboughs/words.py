"""The plainest things that all the others are made of: integers and names."""

LONGEST_NAME = 8
LETTERS = "abcdefghijklmnopqrstuvwxyz"


def is_integer(thing):
    """Whether an object is an integer; a bool is none."""
    return isinstance(thing, int) and not isinstance(thing, bool)


def is_between(thing, least, most):
    """Whether an object is an integer within two bounds; a bool is none."""
    return is_integer(thing) and least <= thing <= most


def is_name(thing):
    """Whether an object is a string of one to eight letters from a to z."""
    if not isinstance(thing, str) or not 1 <= len(thing) <= LONGEST_NAME:
        return False
    return all(["a" <= letter <= "z" for letter in thing])


def name_at(number):
    """A name of its own for each number from 0 on."""
    name = LETTERS[number % len(LETTERS)]
    left = number // len(LETTERS)
    while left > 0:
        name = LETTERS[left % len(LETTERS)] + name
        left = left // len(LETTERS)
    return name
