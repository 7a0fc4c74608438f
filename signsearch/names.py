"""Names of signs, read as tuples (first letter, second, number, last letter).

A letter that a name hasn't is 0, so tuples are in the order of names.
"""

from signsearch.marks import CAPITAL_A, CAPITAL_Z, DIGIT_0, DIGIT_1, DIGIT_9, SMALL_A, SMALL_Z

MOST_DIGITS = 3


def take_small_letter(cursor):
    return cursor.take_between(SMALL_A, SMALL_Z)


# The letters before a name's number, which are its class; None if there are none.
def read_letters(cursor):
    first = cursor.take_between(CAPITAL_A, CAPITAL_Z)
    if first == 0:
        return None
    return (first, take_small_letter(cursor))


# 0 if there's no number: it can't begin with the digit 0.
def read_number(cursor):
    number = 0
    digits = 0
    digit = cursor.take_between(DIGIT_1, DIGIT_9)
    while digit != 0:
        number = number * 10 + digit - DIGIT_0
        digits += 1
        digit = cursor.take_between(DIGIT_0, DIGIT_9) if digits < MOST_DIGITS else 0
    return number


def read_name_behind(letters, cursor):
    number = read_number(cursor)
    if number == 0:
        return None
    return letters + (number, take_small_letter(cursor))


def read_name(cursor):
    letters = read_letters(cursor)
    if letters is None:
        return None
    return read_name_behind(letters, cursor)


def class_of(name):
    return name[:2]
