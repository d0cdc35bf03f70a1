"""The list of calls that is handed in, taken apart call by call."""

# By a call's number: its name, how many whole numbers stand behind the number, how many rows behind those.
FORMS = {
    1: ("judge", 0, 2),
    2: ("shows", 0, 2),
    3: ("find", 0, 3),
    4: ("begin", 0, 2),
    5: ("lit", 0, 0),
    6: ("ticks", 1, 1),
    7: ("level", 1, 0),
    8: ("base", 0, 0),
    9: ("tick", 0, 0),
}


class Call:
    def __init__(self, name, wholes, rows):
        self.name = name
        self.wholes = wholes
        self.rows = rows


def read_calls(numbers):
    calls = []
    at = 0
    while at < len(numbers):
        form = FORMS[numbers[at]]
        at += 1
        wholes = numbers[at:at + form[1]]
        at += form[1]
        rows = []
        while len(rows) < form[2]:
            end = at + 1 + numbers[at]
            rows.append(numbers[at + 1:end])
            at = end
        calls.append(Call(form[0], wholes, rows))
    return calls
