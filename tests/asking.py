"""What the tests share: calls written as short rows, and their answers one by one."""

from timewent.pieces import answers

BIGGEST = 4294967295

BEGIN = [0]


def tell(request, piece_id, within, since=0, to=10, kind=0):
    return [1, request, piece_id, within, since, to, kind]


def apart(request):
    return [2, request]


def path(request):
    return [3, request]


def time(request, piece_id):
    return [4, request, piece_id]


def kind(number):
    return [5, number]


def flat(rows):
    return [number for row in rows for number in row]


def split(given):
    """The answers one by one, each a list of numbers, out of what was given back."""
    rows = []
    at = 0
    while at < len(given):
        behind = at + 1 + given[at]
        if given[at] < 0 or behind > len(given):
            raise AssertionError(f"a count that can't be: {given}")
        rows.append(given[at + 1:behind])
        at = behind
    return rows


def ask_lists(rows):
    """What the rows answer behind a begin of their own, each answer a list of numbers."""
    first, *rest = split(answers(flat([BEGIN] + rows)))
    if first != [0]:
        raise AssertionError(f"begin answered {first}")
    if len(rest) != len(rows):
        raise AssertionError(f"not one answer a call: {rest}")
    return rest


def ask(rows):
    """What the rows answer behind a begin of their own, each answer one number."""
    rest = ask_lists(rows)
    if any(len(answer) != 1 for answer in rest):
        raise AssertionError(f"not one number a call: {rest}")
    return [answer[0] for answer in rest]


def threes(answer):
    """The parts that a path answered, each a tuple of id, from when, till when."""
    if not answer or answer[0] < 0 or len(answer) != 1 + 3 * answer[0]:
        raise AssertionError(f"not an answer of path: {answer}")
    return [tuple(answer[at:at + 3]) for at in range(1, len(answer), 3)]


def parts(rows, request=0):
    """The parts of the request once the rows, all of them tells, were told."""
    *told, answer = ask_lists(rows + [path(request)])
    if any(len(count) != 1 or count[0] < 0 for count in told):
        raise AssertionError(f"a tell was refused: {told}")
    return threes(answer)


def last(rows):
    """What the last of the rows answers."""
    return ask(rows)[-1]


def filled(request, count=64, first=1):
    """Tells of so many pieces that lie within nothing told, ids from first on."""
    return [tell(request, first + k, BIGGEST) for k in range(count)]
