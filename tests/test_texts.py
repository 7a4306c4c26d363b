"""[91]: written forms of pictures, trees, tables, kinds, histories, rules and runs, and what is read from them."""

import re
import unittest

from oneshelf.ballots import Council
from oneshelf.errors import InvalidEntry, InvalidText
from oneshelf.histories import History
from oneshelf.joins import Table
from oneshelf.kinds import Kind
from oneshelf.pictures import Picture
from oneshelf.rules import Rule
from oneshelf.texts import read, written
from oneshelf.trees import Tree
from recalled import COUNTER, FLAG, histories
from support import Case, Dice, full_picture, is_int, is_listy, junk, small_pictures, talkative_pictures
from walked import LETTERS, Walk, some_rules, some_run

NUMBER, TEXT, NAME = "(0|[1-9][0-9]*)", "(-|[a-z0-9]{1,8})", "([a-z][a-z0-9]{0,7})"
WORDS = {"one": "one", "many": "many", "blind": "blind"}
BACKS = {"never": "never", "always": "always", "unlike": "if unlike"}


def fit(pattern, line):
    """The words of a line that has a form; numbers as such, an empty text for the sign of one."""
    found = re.fullmatch(pattern, line)
    return None if found is None else list(found.groups())


def plain(word):
    return "" if word == "-" else word


def shape_text(shape):
    if is_int(shape):
        return str(shape)
    return f"of {shape[1]} {len(shape[2])} " + " ".join(shape_text(part) for part in shape[2])


def own_written(thing):
    """The written form, sign by sign."""
    out = ""
    if isinstance(thing, Picture):
        out = f"picture {len(thing.rows())}\n"
        for house, row in enumerate(thing.rows()):
            for what in row:
                out += f"{house} {what[0]} {what[1] or (0 if what[0] != 'do' else '-')}"
                out += f" {what[2]} {what[3] or '-'}\n" if what[0] == "say" else "\n"
    elif isinstance(thing, Tree):
        out = "tree\n" + shape_text(thing.shape) + "\n"
    elif isinstance(thing, Table):
        out = f"table {len(thing)}\n" + "".join(" ".join(str(part) for part in row) + "\n" for row in thing.rows())
    elif isinstance(thing, Kind):
        out = f"kind {thing.states}\n"
        for name in thing.calls():
            out += name + "".join(f" {thing.after(k, name)[0]} {thing.after(k, name)[1]}" for k in range(thing.states)) + "\n"
    elif isinstance(thing, History):
        out = "history\n"
        for entry in thing.entries():
            if entry[0] == "answer":
                out += f"answer {entry[1]} " + (f"text {entry[2] or '-'}\n" if type(entry[2]) is str else f"count {entry[2]}\n")
            elif type(entry[3]) is str:
                out += f"call {entry[1]} {entry[2]} do {entry[3]}\n"
            else:
                out += f"call {entry[1]} {entry[2]} " + ("read\n" if len(entry[3]) == 1 else f"write {entry[3][1] or '-'}\n")
    elif isinstance(thing, Rule):
        out = f"rule {thing.houses} {thing.writers} {thing.back[-6:] if thing.back == 'if unlike' else thing.back}\n"
        out += f"reading {shape_text(thing.reading.shape)}\nwriting {shape_text(thing.writing.shape)}\n"
    else:
        out = "run\n" + "".join(" ".join(str(part) for part in step) + "\n" for step in thing)
    return out


def own_shape(words, deep=0):
    """A shape and the words behind it; None if there is none."""
    if not words:
        return None
    if words[0] != "of":
        return (int(words[0]), words[1:]) if re.fullmatch(NUMBER, words[0]) and int(words[0]) < 24 else None
    if deep == 5 or len(words) < 3 or not re.fullmatch(NUMBER, words[1]) or not re.fullmatch(NUMBER, words[2]):
        return None
    many, parts, rest = int(words[2]), [], words[3:]
    if not 1 <= int(words[1]) <= many:
        return None
    while len(parts) < many:
        told = own_shape(rest, deep + 1)
        if told is None:
            return None
        parts.append(told[0])
        rest = told[1]
    return ("of", int(words[1]), parts), rest


def leaves(shape):
    return [shape] if is_int(shape) else [house for part in shape[2] for house in leaves(part)]


def own_tree(line, houses=24):
    told = own_shape(line.split(" "))
    if told is None or told[1]:
        return None
    found = leaves(told[0])
    if len(found) > 24 or max(found) >= houses or (len(set(found)) < len(found) and len(set(found)) > 8):
        return None
    return Tree(told[0])


def picture_rows(lines):
    """The rows of a picture by its lines; None if the last one is wrong by its place."""
    many = fit(f"picture {NUMBER}", lines[0])
    if many is None or not 1 <= int(many[0]) <= 6 or len(lines) > 121:
        return None
    rows, last, used = [[] for _ in range(int(many[0]))], 0, []
    for line in lines[1:]:
        do, say = fit(f"{NUMBER} do {TEXT}", line), fit(f"{NUMBER} say {NUMBER} {NUMBER} {TEXT}", line)
        hear = fit(f"{NUMBER} hear {NUMBER}", line)
        told = do or say or hear
        if told is None or not last <= int(told[0]) < len(rows):
            return None
        last = int(told[0])
        what = ("do", plain(told[1])) if do else ("hear", int(told[1])) if hear else (
            "say", int(told[1]), int(told[2]), plain(told[3]))
        if not do and (what[0], what[1]) in used or say and (what[2] >= len(rows) or what[2] == last):
            return None
        used.append(what[:2])
        rows[last].append(what)
    return rows


def table_of(lines):
    many = fit(f"table {NUMBER}", lines[0])
    if many is None or not 1 <= int(many[0]) <= 7 or len(lines) > 1 + int(many[0]):
        return None
    rows = []
    for line in lines[1:]:
        told = fit(" ".join([NUMBER] * int(many[0])), line)
        if told is None or any(int(word) >= int(many[0]) for word in told):
            return None
        rows.append([int(word) for word in told])
    return rows


def kind_of(lines):
    many = fit(f"kind {NUMBER}", lines[0])
    if many is None or not 1 <= int(many[0]) <= 8 or len(lines) > 5:
        return None
    states, calls = int(many[0]), {}
    for line in lines[1:]:
        told = fit(NAME + f" {NUMBER} {NUMBER}" * states, line)
        if told is None or any(int(word) > 99 for word in told[1::2]) or any(int(word) >= states for word in told[2::2]):
            return None
        if any(name >= told[0] for name in calls):
            return None
        calls[told[0]] = [(int(told[2 * k + 1]), int(told[2 * k + 2])) for k in range(states)]
    return calls


def entries_of(lines):
    if lines[0] != "history" or len(lines) > 241:
        return None
    found = []
    for line in lines[1:]:
        told = fit(f"call {NUMBER} {NAME} (?:write {TEXT}|(read)|do {NAME})", line)
        answer = fit(f"answer {NUMBER} (?:text {TEXT}|count {NUMBER})", line)
        if told is None and answer is None or int((told or answer)[0]) > 9:
            return None
        hand = int((told or answer)[0])
        if told:
            call = ("write", plain(told[2])) if told[2] is not None else ("read",) if told[3] is not None else told[4]
            entry = ("call", hand, told[1], call)
        else:
            if answer[2] is not None and int(answer[2]) > 99:
                return None
            entry = ("answer", hand, plain(answer[1]) if answer[1] is not None else int(answer[2]))
        if sum(other[1] == hand for other in found) % 2 != (entry[0] == "answer"):
            return None
        found.append(entry)
    return found


def rule_of(lines):
    told = fit(f"rule {NUMBER} (one|many|blind) (never|always|unlike)", lines[0])
    if told is None or not 1 <= int(told[0]) <= 5 or len(lines) > 3:
        return None
    trees = [told]
    for word, line in zip(("reading ", "writing "), lines[1:]):
        tree = own_tree(line[8:], int(told[0])) if line.startswith(word) else None
        if tree is None:
            return None
        trees.append(tree)
    return trees


def steps_of(lines):
    if lines[0] != "run" or len(lines) > 201:
        return None
    found = []
    for line in lines[1:]:
        told = fit("write ([0-7]) ([a-z0-9]{1,7})", line)
        plain_one = fit("(read|stop) ([0-7])", line) or fit("(lose) ([0-4])", line)
        at = fit("at ([0-7]) ([0-4])", line)
        if told:
            found.append(("write", int(told[0]), told[1]))
        elif plain_one:
            found.append((plain_one[0], int(plain_one[1])))
        elif at:
            found.append(("at", int(at[0]), int(at[1])))
        else:
            return None
    return found


FORMS = {"picture": picture_rows, "table": table_of, "kind": kind_of, "history": entries_of, "rule": rule_of,
         "run": steps_of, "tree": lambda lines: None if lines[0] != "tree" or len(lines) > 2 else [
             own_tree(line) for line in lines[1:]] if all(own_tree(line) for line in lines[1:]) else None}


def own_read(text):
    """What is read, or the number of the line that is told."""
    lines = text.split("\n")
    if len(lines) == 1 or lines[0].split(" ")[0] not in FORMS:
        return 1
    word = lines[0].split(" ")[0]
    for many in range(1, len(lines)):
        if FORMS[word](lines[:many]) is None:
            return many
    if lines[-1] != "":
        return len(lines)
    found = FORMS[word](lines[:-1])
    if word == "picture":
        return whole_picture(found, len(lines))
    if word == "table":
        return Table(found) if len(found) == int(lines[0].split(" ")[1]) else len(lines)
    if word == "kind":
        return Kind(found) if found else len(lines)
    if word == "rule":
        return Rule(int(found[0][0]), found[1], found[2], found[0][1], BACKS[found[0][2]]) if len(found) == 3 else len(lines)
    if word == "tree":
        return found[0] if found else len(lines)
    return History(found) if word == "history" else found


def whole_picture(rows, behind):
    number = 1
    for house, row in enumerate(rows):
        for what in row:
            number += 1
            if what[0] == "hear" and not any(other[:3] == ("say", what[1], house) for more in rows for other in more):
                return number
    done, moved = [0] * len(rows), True
    said = []
    while moved:
        moved = False
        for house, row in enumerate(rows):
            if done[house] < len(row) and (row[done[house]][0] != "hear" or row[done[house]][1] in said):
                said += [row[done[house]][1]] if row[done[house]][0] == "say" else []
                done[house] += 1
                moved = True
    return Picture(rows) if done == [len(row) for row in rows] else behind


def things():
    """Things of all seven kinds."""
    found = small_pictures()[::2] + talkative_pictures(8) + [full_picture()]
    found += [Tree(0), Tree(23), Tree.of(2, 0, Tree.of(1, 1, 2), 5), Tree.of(1, 0, 0), Tree.of(12, *range(24)),
              Tree(("of", 1, [("of", 1, [("of", 2, [("of", 1, [("of", 1, [3]), 4]), 4])])]))]
    found += [Table([[0]]), Table([[0, 1], [1, 1]]), Table([[(x + y) % 7 for x in range(7)] for y in range(7)])]
    found += [FLAG, COUNTER, Kind({"a": [(99, 0)]}), Kind({"a1": [(0, 7)] * 8, "b": [(1, 1)] * 8, "a": [(0, 0)] * 8})]
    found += [History(entries) for entries, _ in histories(30, 6)]
    found += [History([("call", 0, "s", ("write", "")), ("answer", 0, ""), ("call", 0, "s", "do"), ("answer", 0, 99)])]
    found += some_rules(24)
    found += [some_run(rule, k, 5 + k, 8, 2) for k, rule in enumerate(some_rules(12))]
    found += [[], [("lose", 4), ("at", 7, 4), ("at", 7, 4), ("stop", 0), ("stop", 0), ("write", 3, "1234567"),
                   ("write", 3, "1234567"), ("read", 0)], [("read", 0)] * 200]
    return found


def spoilt_texts(text, dice, many):
    """Texts that are much like a text."""
    signs = "0123456789 -\nabcdorwsuyt"
    found = []
    for _ in range(many):
        at, lines = dice.below(len(text) + 1), text.split("\n")
        k = dice.below(len(lines))
        words = lines[k].split(" ")
        w = dice.below(len(words))
        found.append([
            text[:at] + text[at + 1:], text[:at] + dice.one_of(signs) + text[at:], text[:at],
            text[:at] + dice.one_of(signs) + text[at + 1:], "\n".join(lines[:k] + lines[k + 1:]),
            "\n".join(lines[:k] + [lines[k]] + lines[k:]), "\n".join(lines[:k] + lines[k:k + 2][::-1] + lines[k + 2:]),
            "\n".join(lines[:k] + [" ".join(words[:w] + [dice.one_of(("0", "1", "2", "-", "9", "x", "of", "24", "100"))]
                                            + words[w + 1:])] + lines[k + 1:]),
            "\n".join(lines[:k] + [" ".join(words[:w] + words[w + 1:])] + lines[k + 1:])][dice.below(9)])
    return found


class TestTexts(Case):
    def check(self, text):
        wanted = own_read(text)
        if is_int(wanted):
            self.refuse(InvalidText, {"line": wanted}, read, text=text)
            return wanted
        told = read(text)
        self.assertEqual((type(told), told), (type(wanted), wanted))
        self.assertEqual(repr(told), repr(wanted))
        self.assertEqual(written(told), text)
        return None

    def test_the_document(self):
        self.assertEqual(written(Picture([[("say", 7, 1, "")], [("hear", 7), ("do", "a")]])),
                         "picture 2\n0 say 7 1 -\n1 hear 7\n1 do a\n")
        self.assertEqual([written(Tree.of(2, 0, Tree.of(1, 1, 2), 5)), read("run\nread 3\nat 3 0\n")],
                         ["tree\nof 2 3 0 of 1 2 1 2 5\n", [("read", 3), ("at", 3, 0)]])

    def test_written_and_read(self):
        for thing in things():
            text = own_written(thing)
            self.assertEqual(self.ask(written, thing=thing), text)
            told = read(text=text)
            self.assertEqual((type(told), told), (type(thing), thing))
            self.assertEqual(repr(told), repr(thing))
            if isinstance(thing, list):
                self.assertEqual(written(tuple(thing)), text)
                self.ask(read, text=text)

    def test_spoilt_texts(self):
        seen = set()
        for k, thing in enumerate(things()):
            text = own_written(thing)
            if len(text) < 1500:
                for spoilt in spoilt_texts(text, Dice(k), 60):
                    seen.add((text.split(" ")[0].split("\n")[0], self.check(spoilt) is None))
        self.assertEqual(len(seen), 14)

    def test_beginnings(self):
        for thing in things()[::3]:
            text = own_written(thing)
            for at in range(0, len(text), 1 + len(text) // 60):
                self.check(text[:at])
            self.check(text + "\n")
            self.check(text + text)

    def test_lines_and_line_feeds_that_lack(self):
        for text, line in (("", 1), ("\n", 1), ("tree", 1), ("tree\n", 2), ("tree\n5", 2), ("tree\n5\n5\n", 3),
                           ("tree\n5\n\n", 3), ("\ntree\n5\n", 1), ("tree\n\n5\n", 2), ("table 2\n0 1\n", 3),
                           ("table 2\n0 1\n1 1", 3), ("kind 1\n", 2), ("rule 1 one never\n", 2),
                           ("rule 1 one never\nreading 0\n", 3), ("rule 1 one never\nwriting 0\nreading 0\n", 2),
                           ("picture 1", 1), ("history", 1), ("run", 1), ("run\nread 0\nread", 3), ("run\nread\nread", 2),
                           (" run\n", 1), ("run \n", 1), ("Run\n", 1), ("run 1\n", 1), ("runs\n", 1)):
            self.assertEqual(own_read(text), line, text)
            self.refuse(InvalidText, {"line": line}, read, text=text)
        for text in ("picture 1\n", "history\n", "run\n"):
            self.assertIsNone(self.check(text))

    def test_numbers_and_blanks(self):
        for text, line in (("tree\n05\n", 2), ("tree\n00\n", 2), ("tree\n+5\n", 2), ("tree\n-5\n", 2), ("tree\n 5\n", 2),
                           ("tree\n5 \n", 2), ("tree\nof  1 1 0\n", 2), ("picture 02\n", 1), ("picture  2\n", 1),
                           ("picture 1\n0 do a b\n", 2), ("picture 1\n0 do \n", 2), ("picture 1\n0 do -a\n", 2),
                           ("picture 1\n0 do --\n", 2), ("picture 1\n0 do 123456789\n", 2), ("picture 1\n0 do A\n", 2),
                           ("run\nread 00\n", 2), ("run\nwrite 0 -\n", 2), ("run\nwrite 0 12345678\n", 2),
                           ("run\nread 8\n", 2), ("run\nlose 5\n", 2), ("run\nat 0 5\n", 2), ("run\nat 0\n", 2)):
            self.assertEqual(own_read(text), line, text)
            self.refuse(InvalidText, {"line": line}, read, text=text)
        self.assertIsNone(self.check("picture 1\n0 do 0123\n0 do -\n"))

    def test_pictures(self):
        for text, line in (("picture 7\n", 1), ("picture 0\n", 1), ("picture 2\n1 do a\n0 do a\n", 3),
                           ("picture 2\n2 do a\n", 2), ("picture 2\n0 say 1 0 a\n", 2), ("picture 2\n0 say 1 2 a\n", 2),
                           ("picture 2\n0 say 1 1 a\n1 say 1 0 a\n", 3), ("picture 2\n0 say 1 1 a\n1 hear 1\n1 hear 1\n", 4),
                           ("picture 2\n0 do a\n1 hear 1\n", 3), ("picture 3\n0 say 1 1 a\n2 hear 1\n", 3),
                           ("picture 2\n0 hear 1\n0 say 0 1 a\n1 hear 0\n1 say 1 0 b\n", 6),
                           ("picture 1\n" + "0 do a\n" * 121, 122), ("picture 2\n0 hear 4\n1 go 4\n", 3),
                           ("picture 2\n0 hear 4\n1 hear 4\n", 3), ("picture 2\n0 hear 4\n1 do a", 3)):
            self.assertEqual(own_read(text), line, text)
            self.refuse(InvalidText, {"line": line}, read, text=text)
        self.assertIsNone(self.check("picture 1\n" + "0 do a\n" * 120))
        self.assertIsNone(self.check("picture 6\n5 do a\n"))
        self.assertIsNone(self.check("picture 2\n0 hear 123456789012345678901234567890\n"
                                     "1 say 123456789012345678901234567890 0 -\n"))

    def test_as_much_as_the_classes_take(self):
        wide = "of 1 24 " + " ".join(str(house) for house in range(24))
        deep = "of 1 1 " * 5 + "0"
        for text, line in ((f"tree\n{wide}\n", None), (f"tree\n{wide.replace('24', '25')} 0\n", 2), (f"tree\n{deep}\n", None),
                           (f"tree\nof 1 1 {deep}\n", 2), ("tree\n23\n", None), ("tree\n24\n", 2), ("tree\n", 2),
                           ("tree\nof 0 1 0\n", 2), ("tree\nof 2 1 0\n", 2), ("tree\nof 1 0\n", 2), ("tree\nof 1 2 0\n", 2),
                           ("tree\nof 1 1 0 0\n", 2), ("tree\nof 1 9 0 1 2 3 4 5 6 7 7\n", None),
                           ("tree\nof 1 10 0 1 2 3 4 5 6 7 8 8\n", 2), ("tree\nof 1 100000000000000000000 0\n", 2),
                           ("tree\n" + "of 1 1 " * 500 + "0\n", 2), ("table 7\n" + "0 1 2 3 4 5 6\n" * 7, None),
                           ("table 8\n", 1), ("table 0\n", 1), ("table 1\n0\n0\n", 3), ("table 1\n1\n", 2),
                           ("table 2\n0 1 1\n", 2), ("kind 8\na" + " 99 7" * 8 + "\n", None), ("kind 9\n", 1), ("kind 0\n", 1),
                           ("kind 1\na 100 0\n", 2), ("kind 1\na 0 1\n", 2), ("kind 1\na 0 0\na 0 0\n", 3),
                           ("kind 1\nb 0 0\na 0 0\n", 3), ("kind 1\na 0 0\nb 0 0\nc 0 0\nd 0 0\n", None),
                           ("kind 1\na 0 0\nb 0 0\nc 0 0\nd 0 0\ne 0 0\n", 6), ("kind 1\n1 0 0\n", 2), ("kind 1\n- 0 0\n", 2),
                           ("history\n" + "call 0 s read\nanswer 0 text -\n" * 120, None),
                           ("history\n" + "call 0 s read\nanswer 0 text -\n" * 120 + "call 0 s read\n", 242),
                           ("history\ncall 10 s read\n", 2), ("history\ncall 0 s read\nanswer 0 count 100\n", 3),
                           ("history\nanswer 0 count 1\n", 2), ("history\ncall 0 s read\ncall 0 s read\n", 3),
                           ("history\ncall 0 s read a\n", 2), ("history\ncall 0 s write\n", 2), ("history\ncall 0 s do -\n", 2),
                           ("history\ncall 0 - read\n", 2), ("rule 6 one never\n", 1), ("rule 0 one never\n", 1),
                           ("rule 5 one if unlike\n", 1), ("rule 5 two never\n", 1), ("rule 2 one unlike\nreading 2\n", 2),
                           ("rule 2 one unlike\nreading 1\nwriting of 2 2 0 1\n", None),
                           ("rule 2 one unlike\nreading 1\nwriting 2\n", 3), ("rule 1 one never\nreading 0\nwriting 0\n\n", 4),
                           ("run\n" + "read 0\n" * 200, None), ("run\n" + "read 0\n" * 201, 202), ("book 1\n", 1)):
            self.assertEqual(self.check(text), line, text[:80])

    def test_what_has_no_written_form(self):
        values = [value for value in junk() if not is_listy(value) and not isinstance(value, Picture)]
        values += [[None], [("read", 8)], [("read", True)], [["read", 0]], [("at", 0, 5)], [("write", 0, "")], [("lose", 5)],
                   [("write", 0, "12345678")], [("start", 0)], [("read", 0)] * 201, [("stop", -1)], ["read 0"], {},
                   Council(Tree(0), Tree(0)), ((0, -1), ""), [("read",)], [("read", 0, 0)], [("write", 0)], [("at", 0)],
                   [("lose", 0, 0)], "run\n"]
        for value in values:
            self.refuse(InvalidEntry, {"value": value}, written, thing=value)
        for value in junk():
            if is_listy(value) and len(value) > 0:
                self.refuse(InvalidEntry, {"value": value}, written, thing=value)
        self.assertEqual([written([]), written(())], ["run\n", "run\n"])
        self.assertEqual(written([("at", 7, 4), ("at", 7, 4)]), "run\nat 7 4\nat 7 4\n")

    def test_no_strings(self):
        for value in junk():
            if type(value) is not str:
                self.refuse(InvalidText, {"line": 0}, read, text=value)
            else:
                self.refuse(InvalidText, {"line": 1}, read, text=value)
        self.assertEqual(len(LETTERS), 36)
        self.assertTrue(callable(Walk))


if __name__ == "__main__":
    unittest.main()
