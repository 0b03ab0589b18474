"""The list of calls that is handed in, taken apart."""

START = 0
YES = 1
BOUND = 2
CLAIM = 3
BOUNDS = 4
JOINED = 5
WIDER = 6
CHAIN = 7
DROP = 8
MARK = 9
BACK = 10
DECIDE = 11
PROVE = 12
SHOW = 13
RESTS = 14
CAME = 15
JUDGE = 16

# By a call's number: how many whole numbers it has, then how many rows.
FORMS = (
    (1, 0), (0, 0), (3, 0), (0, 1), (0, 1), (3, 1), (1, 1), (0, 2), (1, 0),
    (0, 0), (0, 0), (0, 0), (0, 0), (1, 0), (1, 0), (1, 0), (0, 1), (0, 1),
)


class Call:
    def __init__(self, number, numbers, rows):
        self.number = number
        self.numbers = numbers
        self.rows = rows


def split_calls(handed):
    found = []
    at = 0
    while at < len(handed):
        number = handed[at]
        form = FORMS[number]
        rows_at = at + 1 + form[0]
        numbers = handed[at + 1:rows_at]
        at = rows_at
        rows = []
        while len(rows) < form[1]:
            end = at + 1 + handed[at]
            rows.append(handed[at + 1:end])
            at = end
        found.append(Call(number, numbers, rows))
    return found
