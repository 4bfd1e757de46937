"""The table, its sessions, and the answers to calls."""

from manywriters.calls import IN_SESSION, PUT, SCHEMA, split_calls
from manywriters.deeds import read_deed
from manywriters.reader import NotInForm
from manywriters.schemas import read_schema
from manywriters.steps import count_before_unlike, count_unlike, done_once_more, rows_behind, rows_left_loosely
from manywriters.steps import rows_left_strictly, step_on

MOST_SESSIONS = 8
MOST_DEEDS = 40
MOST_ROWS = 60
MOST_COMMITS = 60

LOOSE = 0
STRICT = 1

REFUSED_FORM = -1
REFUSED_NO_SCHEMA = -2
REFUSED_NO_SESSION = -3
REFUSED_RANGE = -4
REFUSED_SESSIONS = -5
REFUSED_DEEDS = -6
REFUSED_FULL = -7
REFUSED_NOT_TAKABLE = -10


# The base is kept as the rows that the commits up to it left.
class Session:
    def __init__(self, base_rows):
        self.base_rows = base_rows
        self.steps = []

    def do(self, deed):
        step = step_on(rows_behind(self.steps, self.base_rows), deed)
        self.steps.append(step)
        return step.reply


# The history has at place k the rows that the first k commits left.
class Table:
    def __init__(self):
        self.start_anew(None)

    def start_anew(self, schema):
        self.schema = schema
        self.history = [{}]
        self.sessions = {}
        self.next_row = 0

    def committed_rows(self):
        return self.history[-1]

    def commit_count(self):
        return len(self.history) - 1


def answer_schema(table, call):
    try:
        schema = read_schema(call.text)
    except NotInForm:
        return [REFUSED_FORM]
    table.start_anew(schema)
    return [0]


def answer_begin(table, call):
    for number in range(MOST_SESSIONS):
        if number not in table.sessions:
            table.sessions[number] = Session(table.committed_rows())
            return [number]
    return [REFUSED_SESSIONS]


def answer_deed(table, call):
    session = table.sessions[call.numbers[0]]
    try:
        deed = read_deed(table.schema, call, table.next_row)
    except NotInForm:
        return [REFUSED_FORM]
    if len(session.steps) >= MOST_DEEDS:
        return [REFUSED_DEEDS]
    if call.number == PUT:
        table.next_row = table.next_row + 1
    return session.do(deed)


def answer_undo(table, call):
    session = table.sessions[call.numbers[0]]
    kept = call.numbers[1]
    if kept < 0 or kept > len(session.steps):
        return [REFUSED_RANGE]
    session.steps = session.steps[:kept]
    return [kept]


# None if the session can't be taken in this mode.
def rows_left(session, mode, committed):
    if mode == STRICT:
        return rows_left_strictly(session.steps, committed)
    return rows_left_loosely(session.steps, session.base_rows, committed)


def answer_why(table, call):
    session = table.sessions[call.numbers[0]]
    committed = table.committed_rows()
    before = count_before_unlike(session.steps, done_once_more(session.steps, committed))
    strictly = 1 if before == len(session.steps) else 0
    loosely = 1 if rows_left(session, LOOSE, committed) is not None else 0
    return [strictly, loosely, before]


def answer_again(table, call):
    session = table.sessions[call.numbers[0]]
    committed = table.committed_rows()
    redone = done_once_more(session.steps, committed)
    unlike = count_unlike(session.steps, redone)
    session.base_rows = committed
    session.steps = redone
    return [unlike]


def answer_commit(table, call):
    number = call.numbers[0]
    mode = call.numbers[1]
    if mode not in (LOOSE, STRICT):
        return [REFUSED_RANGE]
    rows = rows_left(table.sessions[number], mode, table.committed_rows())
    if rows is None:
        return [REFUSED_NOT_TAKABLE]
    if len(rows) > MOST_ROWS or table.commit_count() >= MOST_COMMITS:
        return [REFUSED_FULL]
    table.history.append(rows)
    table.sessions.pop(number)
    return [table.commit_count()]


def answer_close(table, call):
    table.sessions.pop(call.numbers[0])
    return [0]


def numbers_of(rows):
    return [len(rows)] + sorted(rows)


def answer_rows(table, call):
    return numbers_of(table.committed_rows())


def answer_row(table, call):
    committed = table.committed_rows()
    number = call.numbers[0]
    if number not in committed:
        return [REFUSED_RANGE]
    return [len(committed[number].text)] + committed[number].text


def answer_then(table, call):
    commits = call.numbers[0]
    if commits < 0 or commits > table.commit_count():
        return [REFUSED_RANGE]
    return numbers_of(table.history[commits])


# By the call's number.
ANSWERED_BY = (
    answer_schema,
    answer_begin,
    answer_deed,
    answer_deed,
    answer_deed,
    answer_deed,
    answer_deed,
    answer_undo,
    answer_why,
    answer_again,
    answer_commit,
    answer_close,
    answer_rows,
    answer_row,
    answer_then,
)


def answer_call(table, call):
    if call.number != SCHEMA and table.schema is None:
        return [REFUSED_NO_SCHEMA]
    if call.number in IN_SESSION and call.numbers[0] not in table.sessions:
        return [REFUSED_NO_SESSION]
    return ANSWERED_BY[call.number](table, call)


def answers(calls):
    table = Table()
    answered = []
    for call in split_calls(calls):
        numbers = answer_call(table, call)
        answered.append(len(numbers))
        answered.extend(numbers)
    return answered
