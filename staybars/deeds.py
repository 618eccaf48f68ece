"""Deeds by their form and as texts, what they make of a net, and names."""

from staybars.kinds import is_from_to
from staybars.texts import numbers_of, piece_of

# How many integers stand behind each word.
DEEDS = {"come": 2, "bind": 4, "life": 3, "days": 3, "go": 1, "cut": 1, "last": 1, "turn": 0}
GREATEST_INTEGER = 999999999
LETTERS = "abcdefghijklmnopqrstuvwxyz"
LONGEST_NAME = 8


def is_deed_word(value):
    """Whether any value is the word of a deed."""
    return isinstance(value, str) and value in DEEDS


def has_deed_form(value):
    """Whether any value is a deed by its form."""
    if not isinstance(value, tuple) or value == () or not is_deed_word(value[0]):
        return False
    if len(value) != DEEDS[value[0]] + 1:
        return False
    return all([is_from_to(number, 0, GREATEST_INTEGER) for number in value[1:]])


def text_of_deed(deed):
    """The text of a deed."""
    return piece_of(deed[0], deed[1:])


def deed_of(words):
    """The deed that some words tell, or None if they tell none."""
    if words == [] or not is_deed_word(words[0]):
        return None
    numbers = numbers_of(DEEDS[words[0]], words[1:])
    if numbers is None:
        return None
    return (words[0],) + numbers


def is_name(value):
    """Whether any value is a name: 1 to 8 letters from a to z."""
    if not isinstance(value, str) or not 1 <= len(value) <= LONGEST_NAME:
        return False
    return all([sign in LETTERS for sign in value])


def with_life(net, point, life):
    """What comes of a net when a point has this life."""
    last, points, ties = net
    return last, points[:point] + (life,) + points[point + 1:], ties


def with_days(net, tie, life):
    """What comes of a net when a tie has these days."""
    last, points, ties = net
    return last, points, ties[:tie] + (ties[tie][:2] + life,) + ties[tie + 1:]


def ties_of_point(net, point):
    """The ascending list of the numbers of the ties that have a point."""
    return [number for number, tie in enumerate(net[2]) if point in tie[:2]]


def moved_up(number, gone):
    """The number that a point has when the point with another number is gone."""
    if number > gone:
        return number - 1
    return number


def without_point(net, point):
    """What comes of a net when a point goes that no tie has."""
    last, points, ties = net
    kept = [(moved_up(one, point), moved_up(other, point), first, end) for one, other, first, end in ties]
    return last, points[:point] + points[point + 1:], tuple(kept)


def without_tie(net, tie):
    """What comes of a net when a tie goes."""
    last, points, ties = net
    return last, points, ties[:tie] + ties[tie + 1:]
