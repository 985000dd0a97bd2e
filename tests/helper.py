"""Calls written in numbers, answers taken apart, and a plain model of names to hold the program against."""

from itertools import groupby
from string import ascii_uppercase

from samepeople.desk import answers

MOST = 2 ** 63 - 1

FIRST = (10, -20, 30, 40, 50, 60)
LAST = (1, -2, 3, 4, 5, 6)
BIRTH = (0, -7, 70, 100)
PLACE = (0, -300, 300)
NUMBER = (0, -900, 900)


def row(numbers):
    return [len(numbers), *numbers]


def name(text):
    return [ord(letter) for letter in text] + [0] * (16 - len(text))


def start(same=100, perhaps=50, never=-50, first=FIRST, last=LAST, birth=BIRTH, place=PLACE, number=NUMBER):
    return [0, same, perhaps, never, *row(first), *row(last), *row(birth), *row(place), *row(number)]


def flat_start(total, **bounds):
    """Rules by which two records that know nothing of one another have this sum."""
    zeros = (0, 0, 0)
    return start(first=(0,) * 6, last=(0,) * 6, birth=(total, 0, 0, 0), place=zeros, number=zeros, **bounds)


def add(first="", last="", birth=(0, 0, 0), place=0, number=0, roll=0, zero=(0, 0, 0)):
    first_row = name(first) if isinstance(first, str) else first
    last_row = name(last) if isinstance(last, str) else last
    return [1, number, place, *birth, roll, *row(first_row), *row(last_row), *row(zero)]


def pair(i, j):
    return [2, i, j]


def line(calls):
    return [number for call in calls for number in call]


def told(*calls):
    """The answer of each call, as a list with the form first."""
    given = answers(line(calls))
    apart = []
    while given:
        size = given[0]
        if len(given) < size + 1:
            raise ValueError("fewer numbers than told")
        apart.append(given[1:size + 1])
        given = given[size + 1:]
    if len(apart) != len(calls):
        raise ValueError("not one answer for each call")
    return apart


def pair_told(a, b, rules=None):
    """What is told of two records, given as the arguments of add: told, sum, then the five levels."""
    there, back = told(rules or start(), add(**a), add(**b), pair(0, 1), pair(1, 0))[3:]
    if there != back:
        raise ValueError("not as like either way round")
    if there[0] != 1 or len(there) != 8:
        raise ValueError("not of form 1")
    return there[1:]


def levels(a, b):
    return pair_told(a, b)[2:]


CLASS_OF = {
    letter: str(number)
    for number, group in enumerate(("BFPV", "CGJKQSXZ", "DT", "L", "MN", "R"), start=1)
    for letter in group
}


def model_changed(text):
    """All that comes of a text by one change."""
    places = range(len(text))
    other = {text[:k] + c + text[k + 1:] for k in places for c in ascii_uppercase if c != text[k]}
    put_in = {text[:k] + c + text[k:] for k in range(len(text) + 1) for c in ascii_uppercase}
    left_out = {text[:k] + text[k + 1:] for k in places}
    about = {
        text[:k] + text[k + 1] + text[k] + text[k + 2:]
        for k in range(len(text) - 1) if text[k] != text[k + 1]
    }
    return other | put_in | left_out | about


def model_sound(text):
    classes = "".join(CLASS_OF.get(letter, "") for letter in text[1:])
    return text[0] + "".join(letter_class for letter_class, run in groupby(classes))[:3]


def model_like(a, b):
    if not a or not b:
        return 0
    if a == b:
        return 5
    if b in model_changed(a):
        return 4
    if min(len(a), len(b)) >= 3 and (a.startswith(b) or b.startswith(a)):
        return 3
    return 2 if model_sound(a) == model_sound(b) else 1
