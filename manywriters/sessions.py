"""The table, its sessions, and the answers to calls."""

from manywriters.calls import PUT, SCHEMA, split_calls
from manywriters.deeds import read_deed, reply_of, rows_after
from manywriters.reader import NotInForm
from manywriters.schemas import read_schema

MOST_SESSIONS = 8
MOST_DEEDS = 40

REFUSED_FORM = -1
REFUSED_NO_SCHEMA = -2
REFUSED_NO_SESSION = -3
REFUSED_RANGE = -4
REFUSED_SESSIONS = -5
REFUSED_DEEDS = -6


# A deed, its reply, and the rows as they are behind it.
class Step:
    def __init__(self, deed, reply, rows):
        self.deed = deed
        self.reply = reply
        self.rows = rows


class Session:
    def __init__(self, base, base_rows):
        self.base = base
        self.base_rows = base_rows
        self.steps = []

    def view(self):
        if len(self.steps) == 0:
            return self.base_rows
        return self.steps[-1].rows

    def do(self, deed):
        rows = self.view()
        reply = reply_of(rows, deed)
        self.steps.append(Step(deed, reply, rows_after(rows, deed)))
        return reply


# The history has at place k the rows that the first k commits left.
class Table:
    def __init__(self):
        self.start_anew(None)

    def start_anew(self, schema):
        self.schema = schema
        self.history = [{}]
        self.sessions = {}
        self.next_row = 0


def answer_schema(table, call):
    try:
        schema = read_schema(call.text)
    except NotInForm:
        return [REFUSED_FORM]
    table.start_anew(schema)
    return [0]


def answer_begin(table, call):
    for number in range(MOST_SESSIONS):
        if number not in table.sessions:
            base = len(table.history) - 1
            table.sessions[number] = Session(base, table.history[base])
            return [number]
    return [REFUSED_SESSIONS]


def answer_deed(table, call):
    session = table.sessions.get(call.numbers[0])
    if session is None:
        return [REFUSED_NO_SESSION]
    try:
        deed = read_deed(table.schema, call, table.next_row)
    except NotInForm:
        return [REFUSED_FORM]
    if len(session.steps) >= MOST_DEEDS:
        return [REFUSED_DEEDS]
    if call.number == PUT:
        table.next_row = table.next_row + 1
    return session.do(deed)


def answer_undo(table, call):
    session = table.sessions.get(call.numbers[0])
    if session is None:
        return [REFUSED_NO_SESSION]
    kept = call.numbers[1]
    if kept < 0 or kept > len(session.steps):
        return [REFUSED_RANGE]
    session.steps = session.steps[:kept]
    return [kept]


# By the call's number.
ANSWERED_BY = (
    answer_schema,
    answer_begin,
    answer_deed,
    answer_deed,
    answer_deed,
    answer_deed,
    answer_deed,
    answer_undo,
)


def answer_call(table, call):
    if call.number != SCHEMA and table.schema is None:
        return [REFUSED_NO_SCHEMA]
    return ANSWERED_BY[call.number](table, call)


def answers(calls):
    table = Table()
    answered = []
    for call in split_calls(calls):
        numbers = answer_call(table, call)
        answered.append(len(numbers))
        answered.extend(numbers)
    return answered
