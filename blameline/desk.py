"""The desk: takes the calls on one proof out of one list, and answers them in one list."""

from blameline.proof import Proof

BEGIN = 0
LETTER = 1
GIVEN = 2
STEP = 3
LINE = 4
WIDTH = 5
EMPTY = 6
WRONG = 7
BLAME = 8


class Reader:
    """Goes through the list of calls, number by number, and leaves it as it is."""

    def __init__(self, calls):
        self.calls = calls
        self.place = 0

    def has_more(self):
        return self.place < len(self.calls)

    def take(self):
        number = self.calls[self.place]
        self.place += 1
        return number

    def take_row(self):
        row = []
        for turn in range(self.take()):
            row.append(self.take())
        return row


def answer_given(proof, reader):
    side = reader.take()
    signs = reader.take_row()
    return [proof.add_given(side, signs)]


def answer_step(proof, reader):
    i = reader.take()
    j = reader.take()
    x = reader.take()
    return [proof.add_step(i, j, x)]


def answer_line(proof, reader):
    k = reader.take()
    most = reader.take()
    return proof.show_line(k, most)


def answer_call(proof, reader):
    call = reader.take()
    if call == BEGIN:
        return [proof.begin()]
    if call == LETTER:
        return [proof.add_letter(reader.take())]
    if call == GIVEN:
        return answer_given(proof, reader)
    if call == STEP:
        return answer_step(proof, reader)
    if call == LINE:
        return answer_line(proof, reader)
    if call == WIDTH:
        return [proof.width()]
    if call == EMPTY:
        return [proof.first_empty()]
    if call == WRONG:
        return [proof.wrong_given(reader.take())]
    if call == BLAME:
        return [proof.blamed_side(reader.take())]
    raise ValueError(f"no call has the number {call}")


def answers(calls):
    proof = Proof()
    reader = Reader(calls)
    told = []
    while reader.has_more():
        answer = answer_call(proof, reader)
        told.append(len(answer))
        told.extend(answer)
    return told
