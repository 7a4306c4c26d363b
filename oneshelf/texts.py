"""Written forms of things, and what is read from them."""

from oneshelf.basics import is_integer, is_list
from oneshelf.errors import InvalidEntry, InvalidText
from oneshelf.histories import History
from oneshelf.joins import MOST_VALUES, Table
from oneshelf.kinds import MOST_STATES, Kind
from oneshelf.pictures import MOST_HOUSES, Picture
from oneshelf.readers import (HistoryReader, KindReader, PictureReader, RuleReader, RunReader, TableReader,
                              TreeReader)
from oneshelf.rules import WRITERS, Rule
from oneshelf.shelves import MOST_STEPS
from oneshelf.steps import RULED, is_step, number_of, told_words
from oneshelf.trees import Tree

BACKS = {"never": "never", "always": "always", "unlike": "if unlike"}


def told_shape(shape):
    """The words of a shape."""
    if is_integer(shape):
        return str(shape)
    return " ".join([f"of {shape[1]} {len(shape[2])}"] + [told_shape(part) for part in shape[2]])


def picture_lines(picture):
    """The lines of a picture."""
    rows = picture.rows()
    return [f"picture {picture.houses}"] + [f"{house} {told_words(what)}" for house, row in enumerate(rows)
                                            for what in row]


def kind_lines(kind):
    """The lines of a kind."""
    lines = [f"kind {kind.states}"]
    for name in kind.calls():
        turns = [kind.after(state, name) for state in range(kind.states)]
        lines.append(told_words([name] + [number for turn in turns for number in turn]))
    return lines


def entry_line(entry):
    """The line of an entry."""
    if entry[0] == "answer":
        word = "text" if isinstance(entry[2], str) else "count"
        return told_words(["answer", entry[1], word, entry[2]])
    call = ("do", entry[3]) if isinstance(entry[3], str) else entry[3]
    return told_words(list(entry[:3]) + list(call))


def rule_lines(rule):
    """The lines of a rule."""
    words = [word for word in BACKS if BACKS[word] == rule.back]
    return [f"rule {rule.houses} {rule.writers} {words[0]}", f"reading {told_shape(rule.reading.shape)}",
            f"writing {told_shape(rule.writing.shape)}"]


def lines_of(thing):
    """The lines of any value; None if it has no written form."""
    if isinstance(thing, Picture):
        return picture_lines(thing)
    if isinstance(thing, Tree):
        return ["tree", told_shape(thing.shape)]
    if isinstance(thing, Table):
        return [f"table {len(thing)}"] + [told_words(row) for row in thing.rows()]
    if isinstance(thing, Kind):
        return kind_lines(thing)
    if isinstance(thing, History):
        return ["history"] + [entry_line(entry) for entry in thing.entries()]
    if isinstance(thing, Rule):
        return rule_lines(thing)
    if is_list(thing) and len(thing) <= MOST_STEPS and all([is_step(step, RULED) for step in thing]):
        return ["run"] + [told_words(step) for step in thing]
    return None


def written(thing):
    """The written form."""
    lines = lines_of(thing)
    if lines is None:
        raise InvalidEntry(thing)
    return "".join([f"{line}\n" for line in lines])


def sized_reader(word, size):
    """The reader of what has a head line of this word and size; None if there is none."""
    if size is None or size < 1:
        return None
    if word == "picture" and size <= MOST_HOUSES:
        return PictureReader(size)
    if word == "table" and size <= MOST_VALUES:
        return TableReader(size)
    if word == "kind" and size <= MOST_STATES:
        return KindReader(size)
    return None


def rule_reader(words):
    """The reader of the rule whose head line has these words; None if it is wrong."""
    houses = number_of(words[1])
    if houses is None or not 1 <= houses <= RULED or words[2] not in WRITERS or words[3] not in BACKS:
        return None
    return RuleReader(houses, words[2], BACKS[words[3]])


def reader_of(words):
    """The reader of what has a head line of these words; None if it is wrong."""
    if words == ["tree"]:
        return TreeReader()
    if words == ["history"]:
        return HistoryReader()
    if words == ["run"]:
        return RunReader()
    if len(words) == 2:
        return sized_reader(words[0], number_of(words[1]))
    if len(words) == 4 and words[0] == "rule":
        return rule_reader(words)
    return None


def read(text):
    """What has this written form."""
    if not isinstance(text, str):
        raise InvalidText(0)
    lines = text.split("\n")
    reader = reader_of(lines[0].split(" ")) if len(lines) > 1 else None
    if reader is None:
        raise InvalidText(1)
    for position, line in enumerate(lines[1:-1]):
        if not reader.take(line.split(" ")):
            raise InvalidText(position + 2)
    if lines[-1] != "":
        raise InvalidText(len(lines))
    fault = reader.fault()
    if fault is not None:
        raise InvalidText(fault + 2)
    return reader.thing()
