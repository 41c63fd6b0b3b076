"""The calls on one object, read from one list of whole numbers, and their answers."""

from codeline.shared_line import SharedLine

CALL_BEGIN = 0
CALL_OPEN = 1
CALL_CLOSE = 2
CALL_CODE = 3

# The whole numbers behind a call's own number, in the order of the names above.
NUMBERS_BEHIND = {0: 0, 1: 2, 2: 1, 3: 1}


def answer_one(shared, call, numbers):
    if call == CALL_BEGIN:
        return shared.begin()
    if call == CALL_OPEN:
        return shared.open_user(numbers[0], numbers[1])
    if call == CALL_CLOSE:
        return shared.close_user(numbers[0])
    return shared.code_of(numbers[0])


def answers(calls):
    shared = SharedLine()
    told = []
    place = 0
    while place < len(calls):
        call = calls[place]
        behind = place + 1 + NUMBERS_BEHIND[call]
        answer = answer_one(shared, call, calls[place + 1:behind])
        told.append(len(answer))
        told.extend(answer)
        place = behind
    return told
