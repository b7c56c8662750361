"""The calls on one object, one behind another, and what they answer."""

from timewent.request import Piece, Request

LAST_REQUEST = 15
LAST_KIND = 63

WRONG_NUMBER = -22

BEGIN = 0
TELL = 1
APART = 2
PATH = 3
TIME = 4

# How many whole numbers stand behind the number of each call: begin, tell, apart, path, time, kind.
NUMBERS_OF_CALL = (0, 6, 1, 1, 2, 1)


class Requests:
    """All requests, and what was told of them since the last begin."""

    def __init__(self):
        self.begin()

    def begin(self):
        """Forget all that was told."""
        self.by_number = [Request() for number in range(LAST_REQUEST + 1)]
        return 0

    def tell(self, request, piece_id, within, since, to, kind):
        """Answer how many pieces of the request were told, with this one; or a refusal."""
        if request > LAST_REQUEST or kind > LAST_KIND:
            return WRONG_NUMBER
        if piece_id == 0 or within == piece_id or since > to:
            return WRONG_NUMBER
        return self.by_number[request].tell(piece_id, Piece(within, since, to, kind))

    def apart(self, request):
        """Answer how many pieces of the request do not lie within its whole; or a refusal."""
        if request > LAST_REQUEST:
            return WRONG_NUMBER
        return self.by_number[request].apart()

    def path(self, request):
        """Answer how many parts the request has, and three numbers of each; or a refusal alone."""
        if request > LAST_REQUEST:
            return [WRONG_NUMBER]
        return self.by_number[request].path()

    def time(self, request, piece_id):
        """Answer how long the parts are together that fall to the piece of the request; or a refusal."""
        if request > LAST_REQUEST:
            return WRONG_NUMBER
        return self.by_number[request].time(piece_id)

    def time_of_kind(self, kind):
        """Answer how long the parts of all requests are together that fall to pieces of the kind; or a refusal."""
        if kind > LAST_KIND:
            return WRONG_NUMBER
        return sum([request.time_of_kind(kind) for request in self.by_number])


def answer_call(requests, call, numbers):
    """All numbers that one call answers."""
    if call == BEGIN:
        return [requests.begin()]
    if call == TELL:
        return [requests.tell(numbers[0], numbers[1], numbers[2], numbers[3], numbers[4], numbers[5])]
    if call == APART:
        return [requests.apart(numbers[0])]
    if call == PATH:
        return requests.path(numbers[0])
    if call == TIME:
        return [requests.time(numbers[0], numbers[1])]
    return [requests.time_of_kind(numbers[0])]


def answers(calls):
    """For each call in the list, in order: how many numbers it answers, then these."""
    requests = Requests()
    given = []
    at = 0
    while at < len(calls):
        call = calls[at]
        behind = at + 1 + NUMBERS_OF_CALL[call]
        answered = answer_call(requests, call, calls[at + 1:behind])
        given.append(len(answered))
        given.extend(answered)
        at = behind
    return given
