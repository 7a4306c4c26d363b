"""The words of which written forms and commands are made, and steps of runs by their form alone."""

from oneshelf.basics import DIGITS, is_count, is_name, is_number_below, is_text
from oneshelf.shelves import HANDS, LONGEST_VALUE

RULED = 5


def number_of(word):
    """The COUNT that a word tells; None if it tells none."""
    if word == "" or not all([sign in DIGITS for sign in word]):
        return None
    if word[0] == "0" and len(word) > 1:
        return None
    return int(word)


def number_below(word, many):
    """The COUNT below so many that a word tells; None if it tells none."""
    number = number_of(word)
    return number if number is not None and number < many else None


def text_of(word):
    """The TEXT that a word tells; None if it tells none."""
    if word == "-":
        return ""
    return word if word != "" and is_text(word) else None


def name_of(word):
    """The NAME that a word tells; None if it tells none."""
    return word if is_name(word) else None


def value_of(word):
    """The value of a write that a word tells; None if it tells none."""
    return word if is_value(word) else None


def told_text(text):
    """The word of a TEXT."""
    return text if text != "" else "-"


def is_value(value):
    """Whether any value is one that a step can write."""
    return is_text(value) and 1 <= len(value) <= LONGEST_VALUE


def is_step(value, houses):
    """Whether any value is a step by its form alone, of so many houses."""
    if not isinstance(value, tuple) or len(value) < 2 or not isinstance(value[0], str):
        return False
    if value[0] == "lose":
        return len(value) == 2 and is_number_below(value[1], houses)
    if not is_number_below(value[1], HANDS):
        return False
    if value[0] in ("read", "stop"):
        return len(value) == 2
    if len(value) != 3:
        return False
    if value[0] == "at":
        return is_number_below(value[2], houses)
    return value[0] == "write" and is_value(value[2])


def step_of(words, houses):
    """The step, of so many houses, that a list of words tells; None if it tells none."""
    told = [words[0]]
    for at, word in enumerate(words[1:]):
        told.append(value_of(word) if words[0] == "write" and at == 1 else number_of(word))
    step = tuple(told)
    return step if is_step(step, houses) else None


def told_words(values):
    """The words of texts and COUNTS, with a blank between."""
    return " ".join([str(value) if is_count(value) else told_text(value) for value in values])
