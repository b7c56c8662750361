"""What the tests share: calls written as short rows, and their answers one by one."""

from timewent.pieces import answers

BIGGEST = 4294967295

BEGIN = [0]


def tell(request, piece_id, within, since=0, to=10, kind=0):
    return [1, request, piece_id, within, since, to, kind]


def apart(request):
    return [2, request]


def flat(rows):
    return [number for row in rows for number in row]


def split(given):
    """The answers one by one, each a list of numbers, out of what was given back."""
    rows = []
    at = 0
    while at < len(given):
        behind = at + 1 + given[at]
        if given[at] < 0 or behind > len(given):
            raise AssertionError(f"a count that can't be: {given}")
        rows.append(given[at + 1:behind])
        at = behind
    return rows


def ask(rows):
    """What the rows answer behind a begin of their own, each answer one number."""
    first, *rest = split(answers(flat([BEGIN] + rows)))
    if first != [0]:
        raise AssertionError(f"begin answered {first}")
    if len(rest) != len(rows) or any(len(answer) != 1 for answer in rest):
        raise AssertionError(f"not one number a call: {rest}")
    return [answer[0] for answer in rest]


def last(rows):
    """What the last of the rows answers."""
    return ask(rows)[-1]


def filled(request, count=64, first=1):
    """Tells of so many pieces that lie within nothing told, ids from first on."""
    return [tell(request, first + k, BIGGEST) for k in range(count)]
