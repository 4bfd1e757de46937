"""Lines written call by call, and their answers taken apart again."""

from manywriters.sessions import answers

LEAST = -10 ** 18
GREATEST = 10 ** 18

LOOSE = 0
STRICT = 1

EXAMPLE_SCHEMA = (
    '{1id!i32;2name?t20;3tags*t8;4pos?{1x!i16=0;2y!i16};5shape!<1dot!b;2line!{1len!i8}>;'
    '6attr%{1key!t4;2val?i32}}'
)
EXAMPLE_ROW = (
    '{id:5;tags:"a","b\\22";pos:{x:-1;y:2};shape:<line:{len:7}>;'
    'attr:{key:"a"},{key:"b";val:3}}'
)


def in_bytes(text):
    return list(text.encode("latin-1"))


def with_count(text):
    return [len(text)] + in_bytes(text)


def schema(text):
    return [0] + with_count(text)


def begin():
    return [1]


def put(session, text):
    return [2, session] + with_count(text)


def look(session, row):
    return [3, session, row]


def ask(session, text):
    return [4, session] + with_count(text)


def replace(session, row, text):
    return [5, session, row] + with_count(text)


def drop(session, row):
    return [6, session, row]


def undo(session, deeds):
    return [7, session, deeds]


def why(session):
    return [8, session]


def again(session):
    return [9, session]


def commit(session, mode):
    return [10, session, mode]


def close(session):
    return [11, session]


def rows():
    return [12]


def row(number):
    return [13, number]


def then(commits):
    return [14, commits]


def joined(calls):
    line = []
    for call in calls:
        line = line + call
    return line


def taken_apart(numbers):
    found = []
    place = 0
    while place < len(numbers):
        end = place + 1 + numbers[place]
        if end > len(numbers):
            raise AssertionError("an answer is shorter than its count")
        found.append(numbers[place + 1:end])
        place = end
    return found


def run(*calls):
    """The answers, one list a call."""
    found = taken_apart(answers(joined(calls)))
    if len(found) != len(calls):
        raise AssertionError("not one answer a call")
    return found


def seen(text):
    """What look answers of a row with this text."""
    return with_count(text)


def table_with(*texts):
    """Calls that make a table of which the one commit left rows with these texts."""
    return [schema("{1a!i8}"), begin()] + [put(0, text) for text in texts] + [commit(0, STRICT)]


def by_another(*deeds):
    """Another session, number 1 while session 0 alone is open, that does these deeds and is committed."""
    return [begin()] + list(deeds) + [commit(1, LOOSE)]


def answered_behind(start, *calls):
    """The answers to the calls alone that come behind these first ones, none of which may be refused."""
    found = run(*start, *calls)
    if any(answer[0] < 0 for answer in found[:len(start)]):
        raise AssertionError("one of the test's own first calls was refused")
    return found[len(start):]


def schema_taken(text):
    return run(schema(text)) == [[0]]


def row_taken(schema_text, row_text):
    """Whether the text is a row's; what put and replace say must be alike, and look must give it back."""
    found = run(
        schema(schema_text), begin(), put(0, row_text), look(0, 0), replace(0, 0, row_text)
    )
    if found[:2] != [[0], [0]]:
        raise AssertionError("the test's own schema was not taken")
    if found[2:] == [[0], seen(row_text), [1]]:
        return True
    if found[2:] == [[-1], [0], [-1]]:
        return False
    raise AssertionError(f"put, look and replace disagree: {found[2:]}")


def rows_holding(schema_text, row_texts, condition):
    """The numbers of the rows that hold the condition, or None if it was refused."""
    puts = [put(0, text) for text in row_texts]
    found = run(schema(schema_text), begin(), *puts, ask(0, condition))
    if found[:-1] != [[0], [0]] + [[number] for number in range(len(row_texts))]:
        raise AssertionError("the test's own schema or rows were not taken")
    if found[-1] == [-1]:
        return None
    if found[-1][0] != len(found[-1]) - 1:
        raise AssertionError("ask counts its rows wrongly")
    return found[-1][1:]
