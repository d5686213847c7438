"""The way in: a list of calls is read, and their answers are written into one list."""

from fighterbreeding.calls import HOW_MANY_NUMBERS, HOW_MANY_ROWS, Line, answer_call


def rows_from(calls, at, how_many):
    rows = []
    while len(rows) < how_many:
        end = at + 1 + calls[at]
        rows.append(calls[at + 1:end])
        at = end
    return rows


def place_behind(at, rows):
    return at + len(rows) + sum([len(row) for row in rows])


def answers(calls):
    line = Line()
    written = []
    at = 0
    while at < len(calls):
        call = calls[at]
        rows_at = at + 1 + HOW_MANY_NUMBERS[call]
        numbers = calls[at + 1:rows_at]
        rows = rows_from(calls, rows_at, HOW_MANY_ROWS[call])
        answer = answer_call(line, call, numbers, rows)
        written.append(len(answer))
        written.extend(answer)
        at = place_behind(rows_at, rows)
    return written
