"""The calls of one line, written as one list of numbers, and their answers."""

from rootsums.line import Line

ROUND_OF = 0
CHARS = 1
CHAR = 2
VALUE = 3
PRODUCT = 4
INVERSE = 5
FROM_WHAT = 6
GAUSS = 7
SIZE = 8
JACOBI = 9
CIRCLE = 10
EVEN = 11
SUMS = 12

# How many numbers a call hands over, at the place that is the call's number.
HANDED_OVER = (1, 0, 1, 2, 2, 1, 1, 2, 2, 2, 1, 1, 0)


def answer_to(line, call, handed):
    if call == ROUND_OF:
        return line.round_of(handed[0])
    if call == CHARS:
        return line.chars()
    if call == CHAR:
        return line.char(handed[0])
    if call == VALUE:
        return line.value(handed[0], handed[1])
    if call == PRODUCT:
        return line.product(handed[0], handed[1])
    if call == INVERSE:
        return line.inverse(handed[0])
    if call == FROM_WHAT:
        return line.from_what(handed[0])
    if call == GAUSS:
        return line.gauss(handed[0], handed[1])
    if call == SIZE:
        return line.size(handed[0], handed[1])
    if call == JACOBI:
        return line.jacobi(handed[0], handed[1])
    if call == CIRCLE:
        return line.circle(handed[0])
    if call == EVEN:
        return line.even(handed[0])
    return line.sums()


def answers(calls):
    line = Line()
    told = []
    at = 0
    while at < len(calls):
        call = calls[at]
        end = at + 1 + HANDED_OVER[call]
        answer = answer_to(line, call, calls[at + 1:end])
        told.append(len(answer))
        told.extend(answer)
        at = end
    return told
