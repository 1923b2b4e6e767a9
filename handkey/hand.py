"""The calls on one new object, told and answered as lists of whole numbers."""

from handkey.keying import Keying

BEGIN = 0
DOWN = 1
UP = 2
AT = 3
READ = 4

# Behind begin, down, up, at, read and units, by a call's own number.
NUMBERS_BEHIND = {0: 3, 1: 1, 2: 1, 3: 1, 4: 0, 5: 0}


def answer(keying, call, numbers):
    if call == BEGIN:
        return [keying.begin(numbers[0], numbers[1], numbers[2])]
    if call == DOWN:
        return [keying.down(numbers[0])]
    if call == UP:
        return [keying.up(numbers[0])]
    if call == AT:
        return [keying.at(numbers[0])]
    if call == READ:
        return keying.read()
    return keying.units()


def answers(calls):
    keying = Keying()
    answered = []
    place = 0
    while place < len(calls):
        call = calls[place]
        first = place + 1
        place = first + NUMBERS_BEHIND[call]
        told = answer(keying, call, calls[first:place])
        answered.append(len(told))
        answered.extend(told)
    return answered
