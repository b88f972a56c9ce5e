"""Refusals of names, moments, stretches and knowings, the same wherever they are asked."""

from twotimes.errors import NoKnowing, NoName, NoStretch
from twotimes.stretches import is_moment, is_name, is_stretch

# The words don't show what was refused: a number of some thousand figures can't be shown.


def check_name(thing):
    if not is_name(thing):
        raise NoName("a name is a text of one to eight small letters")


def check_moment(thing):
    if not is_moment(thing):
        raise NoStretch("a moment is a whole number from 0 to 10 ** 12")


def check_stretch(begin, end):
    if not is_stretch(begin, end):
        raise NoStretch("a stretch has a moment as its begin, and as its end a moment above it or None")


def check_in_reach(knowing, last):
    if knowing < 0 or knowing > last:
        raise NoKnowing("a knowing is a whole number from 0 to how many tellings there are")
