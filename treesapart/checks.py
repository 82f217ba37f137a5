"""What is refused alike in several places; each thing that is looked at may be anything."""

from treesapart.errors import NoCount, NoPlace, NoStrengths, NoSuch
from treesapart.layout import is_place, is_whole
from treesapart.parts import is_listed


def is_within(thing, low, high):
    """Whether anything is a whole number from low to high."""
    return is_whole(thing) and low <= thing <= high


def refuse_count(thing, low, high):
    """Refuse what is no number of trees or woods from low to high."""
    if not is_within(thing, low, high):
        raise NoCount(f"this is no whole number from {low} to {high}")


def is_amount(thing):
    """Whether anything is a whole number from 0 on."""
    return is_whole(thing) and thing >= 0


def refuse_amount(thing):
    """Refuse what is no whole number from 0 on."""
    if not is_amount(thing):
        raise NoCount("this is no whole number from 0 on")


def refuse_strength(thing):
    """Refuse what is no strength."""
    if not is_amount(thing):
        raise NoStrengths("a strength is a whole number from 0 on")


def refuse_strengths(web, thing):
    """Refuse what is no list with a strength for each tie of the web, or lane of the lane web."""
    if not is_listed(thing) or len(thing) != len(web[1]):
        raise NoStrengths("this is no list with as many strengths as there are ties")
    for strength in thing:
        refuse_strength(strength)


def refuse_number(web, thing):
    """Refuse what is the number of no tie of the web, or lane of the lane web."""
    if not is_within(thing, 0, len(web[1]) - 1):
        raise NoSuch("this is the number of no tie")


def refuse_place(web, thing):
    """Refuse what is no place of the web, or lane web."""
    if not is_place(web[0], thing):
        raise NoPlace("this is no place")


def refuse_two_places(web, a, b):
    """Refuse what are no two unlike places of the web, or lane web."""
    refuse_place(web, a)
    refuse_place(web, b)
    if a == b:
        raise NoPlace("these are the same place")
