"""The desk: a list of calls in, the list of their answers out."""

from somewayall.graph_calls import Desk, answer_call

# By the number of a call: how many whole numbers it has, and how many rows behind them.
FORMS = ((0, 2), (2, 0), (2, 0), (2, 0), (0, 1), (1, 1), (1, 1), (0, 0), (0, 0), (2, 0), (0, 0))


class Reader:
    """Goes through a list of numbers from the front, and leaves it as it is."""

    def __init__(self, numbers):
        self.numbers = numbers
        self.at = 0

    def is_done(self):
        return self.at >= len(self.numbers)

    def take(self, many):
        """The next so many numbers, as a list of their own."""
        taken = self.numbers[self.at:self.at + many]
        self.at += many
        return taken

    def take_row(self):
        ahead = self.take(1)
        return self.take(ahead[0])


def answers(calls):
    """Of each call, in order: how many numbers it answers, and these."""
    reader = Reader(calls)
    desk = Desk()
    answered = []
    while not reader.is_done():
        answer = answer_next(reader, desk)
        answered.append(len(answer))
        answered.extend(answer)
    return answered


def answer_next(reader, desk):
    call = reader.take(1)[0]
    form = FORMS[call]
    numbers = reader.take(form[0])
    rows = []
    for k in range(form[1]):
        rows.append(reader.take_row())
    return answer_call(desk, call, numbers, rows)
