"""What a session has done, step by step, and what a commit of it would leave."""

from manywriters.calls import DROP, PUT, REPLACE
from manywriters.deeds import reply_of, rows_after


# A deed, its reply, and the rows as they are behind it.
class Step:
    def __init__(self, deed, reply, rows):
        self.deed = deed
        self.reply = reply
        self.rows = rows


def step_on(rows, deed):
    return Step(deed, reply_of(rows, deed), rows_after(rows, deed))


def rows_behind(steps, first_rows):
    if len(steps) == 0:
        return first_rows
    return steps[-1].rows


def done_once_more(steps, first_rows):
    redone = []
    for step in steps:
        redone.append(step_on(rows_behind(redone, first_rows), step.deed))
    return redone


def count_before_unlike(steps, redone):
    for place, step in enumerate(steps):
        if step.reply != redone[place].reply:
            return place
    return len(steps)


def count_unlike(steps, redone):
    unlike = 0
    for place, step in enumerate(steps):
        if step.reply != redone[place].reply:
            unlike = unlike + 1
    return unlike


# The answer to a put is the row's number, so its reply may not be asked whether it's "done".
def has_written(step):
    if step.deed.call == PUT:
        return True
    return step.deed.call in (REPLACE, DROP) and step.reply == [1]


def text_in(rows, number):
    if number in rows:
        return rows[number].text
    return None


# The rows that a strict commit leaves, or None if the steps aren't strictly takable.
def rows_left_strictly(steps, committed):
    redone = done_once_more(steps, committed)
    if count_before_unlike(steps, redone) < len(steps):
        return None
    return rows_behind(redone, committed)


# The rows that a loose commit leaves, or None if the steps aren't loosely takable.
def rows_left_loosely(steps, base_rows, committed):
    view = rows_behind(steps, base_rows)
    left = dict(committed)
    for number in [step.deed.number for step in steps if has_written(step)]:
        if text_in(base_rows, number) != text_in(committed, number):
            return None
        if number in view:
            left[number] = view[number]
        elif number in left:
            left.pop(number)
    return left
