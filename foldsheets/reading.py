"""The list of calls, read call by call."""

JOB = 1
SIZES = 2
SIDE = 3
PAGE = 4
STACK = 5
JOINED = 6
SLIT = 7
CREEP = 8
JUDGE = 9
FIND = 10
LEAST = 11

# Of each call: how many whole numbers it has, and behind these how many lists.
FORMS = {
    1: (2, 1),
    2: (0, 0),
    3: (4, 0),
    4: (1, 0),
    5: (3, 0),
    6: (0, 0),
    7: (0, 0),
    8: (2, 0),
    9: (3, 2),
    10: (1, 4),
    11: (1, 0),
    12: (1, 0),
}


class Call:
    def __init__(self, number, numbers, lists, after):
        self.number = number
        self.numbers = numbers
        self.lists = lists
        self.after = after


def read_call(calls, at):
    number = calls[at]
    form = FORMS[number]
    after = at + 1 + form[0]
    numbers = calls[at + 1:after]
    lists = []
    while len(lists) < form[1]:
        start = after + 1
        after = start + calls[after]
        lists.append(calls[start:after])
    return Call(number, numbers, lists, after)


def read_calls(calls):
    found = []
    at = 0
    while at < len(calls):
        call = read_call(calls, at)
        found.append(call)
        at = call.after
    return found
