"""Many lines made by a fixed rule, with answers that a second way of reading the document gives.

Texts are judged here from the innermost group outwards, and a view is made anew from all deeds at each call.
"""

import random
import re
import unittest

from tests import helper
from tests.helper import ask, begin, drop, in_bytes, look, put, replace, run, schema, undo

ESCAPED = r"\\(?:[01][0-9a-f]|22|5c|7f|[89a-f][0-9a-f])"
LITERAL = r'"((?:[ !#-\[\]-~]|' + ESCAPED + r')*)"'
WHOLE = re.compile(r"0|-?[1-9][0-9]*")
FIELD = re.compile(r"([1-9][0-9]{0,2})([a-z][a-z0-9_]{0,11})([!?*%])(b|[it][1-9][0-9]{0,2}|[^\0-\xff])(=.*)?")
# Signs that no text of bytes has; they stand for what has been read already.
MARK = 0x4000


class Wrong(Exception):
    pass


def require(condition):
    if not condition:
        raise Wrong()


def bytes_of(inner):
    return tuple(int(part[1:], 16) if len(part) == 3 else ord(part) for part in re.findall(ESCAPED + "|.", inner))


def read_leaf_literal(kind, text):
    if kind[0] == "t":
        found = re.fullmatch(LITERAL, text)
        require(found)
        value = bytes_of(found.group(1))
        require(len(value) <= int(kind[1:]))
        return value
    require(WHOLE.fullmatch(text) and len(text) < 30)
    half = 2 ** (int(kind[1:]) - 1) if kind[0] == "i" else None
    require(0 <= int(text) <= 1 if half is None else -half <= int(text) < half)
    return int(text)


def is_leaf(kind):
    return isinstance(kind, str)


def judged_schema(text):
    """The outermost record as ("{", [(name, mode, kind)]), or Wrong."""
    require(len(text) <= 2000)
    groups = []

    def keep_group(found):
        groups.append(judged_group(found.group(0), groups))
        return chr(MARK + len(groups) - 1)

    text = re.sub("=" + LITERAL, "=" + chr(MARK - 1), text)
    require('"' not in text)
    while len(text) > 1:
        smaller = re.sub(r"\{[^{}<>]*\}|<[^{}<>]*>", keep_group, text)
        require(smaller != text)
        text = smaller
    require(text != "" and ord(text) >= MARK)
    whole = groups[ord(text) - MARK]
    require(whole["sign"] == "{" and whole["depth"] <= 6 and whole["leaves"] <= 40)
    return (whole["sign"], whole["fields"])


def judged_group(text, groups):
    fields = []
    depth = 1
    leaves = 0
    numbers = []
    for written in text[1:-1].split(";"):
        found = FIELD.fullmatch(written)
        require(found)
        number, name, mode, kind, default = found.groups()
        numbers.append(int(number))
        require(text[0] == "{" or mode == "!")
        if ord(kind[0]) >= MARK:
            inner = groups[ord(kind) - MARK]
            depth = max(depth, inner["depth"] + 1)
            leaves += inner["leaves"]
            kind = (inner["sign"], inner["fields"])
        else:
            require(kind[0] == "b" or (2 if kind[0] == "i" else 1) <= int(kind[1:]) <= (64 if kind[0] == "i" else 999))
            leaves += 1
        if mode == "%":
            require(not is_leaf(kind) and kind[0] == "{" and kind[1][0][1] == "!" and is_leaf(kind[1][0][2]))
        if default is not None:
            require(mode == "!" and is_leaf(kind) and text[0] == "{")
            marked = default[1:] == chr(MARK - 1)
            require(marked == (kind[0] == "t"))
            if not marked:
                read_leaf_literal(kind, default[1:])
        fields.append((name, mode, kind))
    require(numbers == sorted(set(numbers)) and len({field[0] for field in fields}) == len(fields))
    return {"sign": text[0], "fields": fields, "depth": depth, "leaves": leaves}


def judged_text_defaults(text):
    """The lengths of text defaults, of which judged_schema sees no more than a mark."""
    for found in re.finditer("(t[0-9]+)?=" + LITERAL, text):
        require(found.group(1))
        require(len(bytes_of(found.group(2))) <= int(found.group(1)[1:]))


def schema_or_none(text):
    try:
        judged = judged_schema(text)
        judged_text_defaults(text)
    except Wrong:
        return None
    return judged


def judged_row(record, text):
    """The row as nested ("{", [(name, [value])]) and leaves' own texts, or Wrong."""
    require(len(text) <= 4000)
    parts = []

    def keep(part):
        parts.append(part)
        return chr(MARK + len(parts) - 1)

    def keep_group(found):
        inner = found.group(0)
        fields = []
        for written in inner[1:-1].split(";") if inner != "{}" else []:
            shape = re.fullmatch(r"([a-z][a-z0-9_]*):(.*)", written, re.S)
            require(shape)
            values = shape.group(2).split(",")
            fields.append((shape.group(1), [parts[ord(v) - MARK] if len(v) == 1 and ord(v) >= MARK else v for v in values]))
        return keep((inner[0], fields))

    text = re.sub(LITERAL, lambda found: keep(found.group(0)), text)
    while len(text) > 1:
        smaller = re.sub(r"\{[^{}<>]*\}|<[^{}<>]*>", keep_group, text)
        require(smaller != text)
        text = smaller
    require(text != "" and ord(text) >= MARK)
    return fitted(record, parts[ord(text) - MARK])


def fitted(kind, value):
    """A leaf's value, or a dict of each field's occurrences by its name."""
    if is_leaf(kind):
        require(isinstance(value, str))
        return read_leaf_literal(kind, value)
    require(isinstance(value, tuple) and value[0] == kind[0])
    names = [name for name, mode, inner in kind[1]]
    given = [name for name, values in value[1]]
    require(given == [name for name in names if name in given])
    require(kind[0] == "{" or len(given) == 1)
    occurrences = {name: [] for name in names}
    for name, values in value[1]:
        inner = dict((field[0], field[2]) for field in kind[1])[name]
        occurrences[name] = [fitted(inner, one) for one in values]
    for name, mode, inner in kind[1]:
        count = len(occurrences[name])
        if kind[0] == "{":
            require(mode != "!" or count == 1)
        require(mode in "*%" or count <= 1)
        if mode == "%":
            keys = [one[inner[1][0][0]][0] for one in occurrences[name]]
            require(all(keys[k] < keys[k + 1] for k in range(count - 1)))
    return occurrences


def row_or_none(record, text):
    try:
        return judged_row(record, text)
    except Wrong:
        return None


def items_of(value, names):
    """A column's items with its gaps, which are None."""
    if not names:
        return [value]
    if not value[names[0]]:
        return [None]
    return [item for one in value[names[0]] for item in items_of(one, names[1:])]


def leaf_at(kind, names):
    for name in names:
        require(not is_leaf(kind))
        inner = [field[2] for field in kind[1] if field[0] == name]
        require(inner)
        kind = inner[0]
    require(is_leaf(kind))
    return kind


def judged_condition(record, text):
    """A function that tells whether a row holds the condition, or Wrong."""
    require(len(text) <= 500)
    parts = []

    def keep(depth, function):
        parts.append((depth, function))
        return chr(MARK + len(parts) - 1)

    def keep_atom(found):
        names = found.group(1).split(".")
        kind = leaf_at(record, names)
        test = found.group(2)
        if test == "?":
            require(found.group(3) == "")
            return keep(0, lambda row: any(item is not None for item in items_of(row, names)))
        literal = read_leaf_literal(kind, found.group(3))
        require(test != "^" or kind[0] == "t")
        holds = {
            "<": lambda item: item < literal, ">": lambda item: item > literal, "=": lambda item: item == literal,
            "^": lambda item: item[:len(literal)] == literal,
        }[test]
        return keep(0, lambda row: any(item is not None and holds(item) for item in items_of(row, names)))

    def keep_joined(found):
        sign = found.group(0)[0]
        inner = [parts[ord(one) - MARK] for one in re.findall("[^\0-\xff]", found.group(0))]
        depth = 1 + max(one[0] for one in inner)
        if sign == "!":
            return keep(depth, lambda row: not inner[0][1](row))
        together = all if sign == "&" else any
        return keep(depth, lambda row: together(one[1](row) for one in inner))

    text = re.sub(r"\(([a-z0-9_.]+)([?<>=^])((?:" + LITERAL + r"|[-0-9]+)?)\)", keep_atom, text)
    require('"' not in text and "(" not in text)
    text = text.replace("T", keep(0, lambda row: True)).replace("F", keep(0, lambda row: False))
    while len(text) > 1:
        one = "[^\0-\xff]"
        smaller = re.sub(f"!{one}|[&|]\\[{one}(?:,{one})*\\]", keep_joined, text, count=1)
        require(smaller != text)
        text = smaller
    require(text != "" and ord(text) >= MARK)
    require(parts[ord(text) - MARK][0] <= 20)
    return parts[ord(text) - MARK][1]


def condition_or_none(record, text):
    try:
        return judged_condition(record, text)
    except Wrong:
        return None


class Maker:
    """Makes schemas, rows and conditions, most of them right."""

    def __init__(self, seed):
        self.random = random.Random(seed)

    def literal(self, kind):
        if kind == "b":
            return self.random.choice("01")
        if kind[0] == "i":
            half = 2 ** (int(kind[1:]) - 1)
            return str(self.random.choice([-half, half - 1, 0, self.random.randrange(-half, half)]))
        length = self.random.randrange(0, min(int(kind[1:]), 3) + 1)
        return '"' + "".join(self.written(self.random.choice(b'a\0b"\\\xff z~')) for place in range(length)) + '"'

    def written(self, byte):
        if 32 <= byte <= 126 and byte not in (34, 92):
            return chr(byte)
        return f"\\{byte:02x}"

    def group(self, depth, sign, keyed):
        fields = []
        number = 0
        for name in self.random.sample(["a", "b", "c1", "d_", "key", "x"], self.random.randrange(1, 4)):
            number += self.random.choice([1, 1, 8, 90])
            leaf = depth >= 6 or self.random.random() < 0.6 or (keyed and not fields)
            mode = self.random.choice("!?*") if sign == "{" and not (keyed and not fields) else "!"
            default = ""
            if leaf:
                kind = self.random.choice(["b", "i2", "i3", "i8", "i64", "t1", "t3", "t999"])
                if sign == "{" and mode == "!" and self.random.random() < 0.3:
                    default = "=" + self.literal(kind)
            else:
                if sign == "{" and self.random.random() < 0.3:
                    mode = "%"
                inner = "{" if mode == "%" else self.random.choice("{<")
                kind = self.group(depth + 1, inner, mode == "%")
            fields.append(f"{number}{name}{mode}{kind}{default}")
        return sign + ";".join(fields) + ("}" if sign == "{" else ">")

    def value(self, kind):
        if is_leaf(kind):
            return self.literal(kind)
        sign, fields = kind
        if sign == "<":
            name, mode, inner = self.random.choice(fields)
            return "<" + name + ":" + self.value(inner) + ">"
        written = []
        for name, mode, inner in fields:
            count = 1 if mode == "!" else self.random.randrange(0, 2 if mode == "?" else 4)
            if count:
                written.append(name + ":" + ",".join(self.value(inner) for place in range(count)))
        return "{" + ";".join(written) + "}"

    def row(self, record):
        """A right row if a few tries find one: keys may not rise."""
        text = self.value(record)
        for attempt in range(6):
            if row_or_none(record, text) is not None:
                return text
            text = self.value(record)
        return text

    def names(self, kind):
        if is_leaf(kind):
            return []
        name, mode, inner = self.random.choice(kind[1])
        return [name] + self.names(inner)

    def condition(self, record, depth):
        chance = self.random.random()
        if chance < 0.05:
            return self.random.choice("TF")
        if chance < 0.6 or depth > 3:
            names = self.names(record)
            kind = leaf_at(record, names)
            test = self.random.choice("?<>=^" if kind[0] == "t" else "?<>=")
            return "(" + ".".join(names) + test + ("" if test == "?" else self.literal(kind)) + ")"
        if chance < 0.75:
            return "!" + self.condition(record, depth + 1)
        inner = [self.condition(record, depth + 1) for place in range(self.random.randrange(1, 4))]
        return self.random.choice("&|") + "[" + ",".join(inner) + "]"

    def spoilt(self, text):
        """The text with one small change, often to a sign that it has elsewhere."""
        place = self.random.randrange(0, len(text) + 1)
        sign = self.random.choice(text + '{}<>;:,!?*%=&|[]()^."\\019-azTF_ A\0\x7f\xff')
        change = self.random.randrange(4)
        if change == 0:
            return text[:place] + sign + text[place:]
        if change == 1:
            return text[:place] + text[place + 1:]
        if change == 2:
            return text[:place] + sign + text[place + 1:]
        end = self.random.randrange(place, len(text) + 1)
        return text[:place] + text[end:]

    def perhaps_spoilt(self, text):
        return self.spoilt(text) if self.random.random() < 0.3 else text


class Model:
    """What a line is answered, with each view made from the beginning, of texts alone."""

    def __init__(self, record=None):
        self.record = record
        self.commits = [{}]
        self.sessions = {}
        self.next_row = 0
        self.judged = {}

    def schema(self, text):
        judged = schema_or_none(text)
        if judged is None:
            return [-1]
        self.__init__(judged)
        return [0]

    def begin(self):
        if len(self.sessions) == 8:
            return [-5]
        number = min(set(range(8)) - set(self.sessions))
        self.sessions[number] = {"base": len(self.commits) - 1, "deeds": [], "replies": []}
        return [number]

    def row(self, text):
        if text not in self.judged:
            self.judged[text] = row_or_none(self.record, text)
        return self.judged[text]

    def done(self, deeds, rows):
        """The replies to these deeds, and what they make of the rows."""
        rows = dict(rows)
        replies = []
        for name, number, text in deeds:
            there = number in rows
            if name == "put":
                replies.append("done")
            elif name == "look":
                replies.append(rows.get(number, "no"))
            elif name == "ask":
                holds = condition_or_none(self.record, text)
                replies.append([other for other in sorted(rows) if holds(self.row(rows[other]))])
            else:
                replies.append("done" if there else "no")
            if name == "put" or name == "replace" and there:
                rows[number] = text
            if name == "drop" and there:
                rows.pop(number)
        return replies, rows

    def deed(self, name, session, number, text):
        if session not in self.sessions:
            return [-3]
        if name in ("put", "replace") and self.row(text) is None:
            return [-1]
        if name == "ask" and condition_or_none(self.record, text) is None:
            return [-1]
        opened = self.sessions[session]
        if len(opened["deeds"]) == 40:
            return [-6]
        if name == "put":
            number = self.next_row
            self.next_row += 1
        opened["deeds"].append((name, number, text))
        reply = self.done(opened["deeds"], self.commits[opened["base"]])[0][-1]
        opened["replies"].append(reply)
        if name == "put":
            return [number]
        if name == "look":
            return [0] if reply == "no" else [len(reply)] + in_bytes(reply)
        if name == "ask":
            return [len(reply)] + reply
        return [["no", "done"].index(reply)]

    def undo(self, session, deeds):
        if session not in self.sessions:
            return [-3]
        opened = self.sessions[session]
        if not 0 <= deeds <= len(opened["deeds"]):
            return [-4]
        opened["deeds"] = opened["deeds"][:deeds]
        opened["replies"] = opened["replies"][:deeds]
        return [deeds]

    def unlike(self, opened):
        """The places of the deeds that would have another reply now."""
        now = self.done(opened["deeds"], self.commits[-1])[0]
        return [place for place in range(len(now)) if now[place] != opened["replies"][place]]

    def written(self, opened):
        pairs = zip(opened["deeds"], opened["replies"])
        return {deed[1] for deed, reply in pairs if deed[0] in ("put", "replace", "drop") and reply == "done"}

    def is_loose(self, opened):
        base = self.commits[opened["base"]]
        return all(base.get(number) == self.commits[-1].get(number) for number in self.written(opened))

    def why(self, session):
        if session not in self.sessions:
            return [-3]
        opened = self.sessions[session]
        places = self.unlike(opened) + [len(opened["deeds"])]
        return [int(len(places) == 1), int(self.is_loose(opened)), places[0]]

    def again(self, session):
        if session not in self.sessions:
            return [-3]
        opened = self.sessions[session]
        count = len(self.unlike(opened))
        opened["replies"] = self.done(opened["deeds"], self.commits[-1])[0]
        opened["base"] = len(self.commits) - 1
        return [count]

    def commit(self, session, mode):
        if session not in self.sessions:
            return [-3]
        if mode not in (0, 1):
            return [-4]
        opened = self.sessions[session]
        if not (self.is_loose(opened) if mode == 0 else self.unlike(opened) == []):
            return [-10]
        if mode == 1:
            left = self.done(opened["deeds"], self.commits[-1])[1]
        else:
            view = self.done(opened["deeds"], self.commits[opened["base"]])[1]
            written = self.written(opened)
            left = {number: text for number, text in self.commits[-1].items() if number not in written}
            left.update({number: text for number, text in view.items() if number in written})
        if len(left) > 60 or len(self.commits) == 61:
            return [-7]
        self.commits.append(left)
        self.sessions.pop(session)
        return [len(self.commits) - 1]

    def close(self, session):
        return [-3] if self.sessions.pop(session, None) is None else [0]

    def rows(self):
        return self.then(len(self.commits) - 1)

    def committed_row(self, number):
        text = self.commits[-1].get(number)
        return [-4] if text is None else [len(text)] + in_bytes(text)

    def then(self, commits):
        if not 0 <= commits < len(self.commits):
            return [-4]
        return [len(self.commits[commits])] + sorted(self.commits[commits])


class Line:
    """Calls, and what the model answers to each."""

    def __init__(self, seed):
        self.maker = Maker(seed)
        self.random = self.maker.random
        self.model = Model()
        self.calls = []
        self.expected = []

    def add(self, call, answer):
        self.calls.append(call)
        self.expected.append(answer)

    def add_schema(self, text):
        self.add(schema(text), self.model.schema(text))

    def add_begin(self):
        self.add(begin(), self.model.begin())

    def add_deed(self, session, row, condition):
        number = self.random.randrange(-1, self.model.next_row + 1)
        name = self.random.choice(["put", "put", "ask", "ask", "look", "replace", "drop"])
        call = {
            "put": put(session, row), "ask": ask(session, condition), "look": look(session, number),
            "replace": replace(session, number, row), "drop": drop(session, number),
        }[name]
        text = condition if name == "ask" else row if name in ("put", "replace") else None
        self.add(call, self.model.deed(name, session, None if name in ("put", "ask") else number, text))

    def add_undo(self, session):
        done = len(self.model.sessions.get(session, {"deeds": []})["deeds"])
        deeds = self.random.choice([-1, 0, done, done + 1, max(0, done - 1), done // 2])
        self.add(undo(session, deeds), self.model.undo(session, deeds))

    def add_end(self, session):
        chance = self.random.randrange(10)
        if chance < 3:
            self.add(helper.commit(session, 0), self.model.commit(session, 0))
        elif chance < 7:
            self.add(helper.commit(session, 1), self.model.commit(session, 1))
        elif chance < 8:
            mode = self.random.choice([-1, 2])
            self.add(helper.commit(session, mode), self.model.commit(session, mode))
        else:
            self.add(helper.close(session), self.model.close(session))

    def add_question(self, session):
        chance = self.random.randrange(10)
        number = self.random.randrange(-1, self.model.next_row + 1)
        commits = self.random.randrange(-1, len(self.model.commits) + 1)
        if chance < 4:
            self.add(helper.why(session), self.model.why(session))
        elif chance < 6:
            self.add(helper.again(session), self.model.again(session))
        elif chance < 7:
            self.add(helper.rows(), self.model.rows())
        elif chance < 8:
            self.add(helper.row(number), self.model.committed_row(number))
        else:
            self.add(helper.then(commits), self.model.then(commits))

    def add_some(self, session, row, condition):
        chance = self.random.randrange(20)
        if chance < 10:
            self.add_deed(session, row, condition)
        elif chance < 12:
            self.add_begin()
        elif chance < 13:
            self.add_undo(session)
        elif chance < 15:
            self.add_end(session)
        else:
            self.add_question(session)


def made_line(seed):
    """Any schema, with rows and conditions that may be spoilt."""
    line = Line(seed)
    maker = line.maker
    text = maker.group(1, "{", False)
    while schema_or_none(text) is None:
        text = maker.group(1, "{", False)
    line.add_schema(text)
    line.add_begin()
    for count in range(80):
        session = maker.random.choice([0, 0, 0, 0, 0, 1, 1, 2, -1])
        row = maker.perhaps_spoilt(maker.row(line.model.record))
        condition = maker.perhaps_spoilt(maker.condition(line.model.record, 0))
        line.add_some(session, row, condition)
        if maker.random.random() < 0.01:
            line.add_schema(maker.spoilt(text))
    return line.calls, line.expected


def crowded_line(seed):
    """A small schema with few unlike rows, and many sessions that write the same ones."""
    line = Line(f"crowded {seed}")
    line.add_schema("{1a!i3}")
    # Half of the lines put so many rows first that there's little room for others.
    if line.random.random() < 0.5:
        for session in range(2):
            line.add_begin()
            for count in range(line.random.randrange(26, 34)):
                line.add(put(0, "{a:0}"), line.model.deed("put", 0, None, "{a:0}"))
            line.add(helper.commit(0, 1), line.model.commit(0, 1))
    while len(line.calls) < 400:
        session = line.random.randrange(4)
        row = "{a:" + str(line.random.randrange(-1, 3)) + "}"
        condition = "(a" + line.random.choice("<>=") + str(line.random.randrange(-1, 3)) + ")"
        line.add_some(session, row, condition)
    return line.calls, line.expected


class Generated(unittest.TestCase):
    def compare(self, made, seeds):
        """The answers that were seen, each as its call's number and what is told of it."""
        seen = set()
        for seed in range(seeds):
            calls, expected = made(seed)
            found = run(*calls)
            for place, call in enumerate(calls):
                answer = expected[place]
                if found[place] != answer:
                    self.fail(f"seed {seed}, call {place}, {call}: {found[place]}, not {answer}")
                seen.add((call[0], min(answer[0], 0)))
                if call[0] == 8 and answer[0] >= 0:
                    seen.add(("why", answer[0], answer[1]))
                if call[0] == 10:
                    seen.add(("commit", call[2], min(answer[0], 0)))
                if call[0] == 9 and answer[0] > 0:
                    seen.add("again with others")
        return seen

    def test_lines(self):
        seen = self.compare(made_line, 150)
        # Each call was both answered and refused, so that the comparison is no empty one.
        for call in range(15):
            refusals = {0: [-1], 2: [-1, -3], 4: [-1, -3], 5: [-1, -3], 7: [-3, -4], 10: [-3, -4, -10], 13: [-4], 14: [-4]}
            for answer in [0] + refusals.get(call, [-3] if call not in (1, 12) else []):
                self.assertIn((call, answer), seen)

    def test_crowded_lines(self):
        seen = self.compare(crowded_line, 60)
        for mode in (0, 1):
            for answer in (0, -3, -7, -10):
                self.assertIn(("commit", mode, answer), seen)
            for other in (0, 1):
                self.assertIn(("why", mode, other), seen)
        self.assertIn("again with others", seen)
        self.assertIn((2, -6), seen)
        self.assertIn((1, -5), seen)

    def test_schemas(self):
        judged = {True: 0, False: 0}
        for seed in range(3000):
            maker = Maker(f"schema {seed}")
            text = maker.perhaps_spoilt(maker.perhaps_spoilt(maker.group(1, "{", False)))
            right = schema_or_none(text) is not None
            judged[right] += 1
            if run(schema(text)) != [[0 if right else -1]]:
                self.fail(f"seed {seed}: {text}")
        self.assertGreater(min(judged.values()), 300)


if __name__ == "__main__":
    unittest.main()
