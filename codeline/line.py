"""The calls on one object, read from one list of whole numbers, and their answers."""

from codeline.shared_line import SharedLine

CALL_BEGIN = 0
CALL_OPEN = 1
CALL_CLOSE = 2
CALL_CODE = 3
CALL_SAY = 4
CALL_LINE = 5
CALL_HEAR = 6

# The whole numbers behind a call's own number, in the order of the names above.
NUMBERS_BEHIND = {0: 0, 1: 2, 2: 1, 3: 1, 4: 2, 5: 0, 6: 2}


def has_row(call):
    return call == CALL_SAY or call == CALL_HEAR


def answer_one(shared, call, numbers, row):
    if call == CALL_BEGIN:
        return shared.begin()
    if call == CALL_OPEN:
        return shared.open_user(numbers[0], numbers[1])
    if call == CALL_CLOSE:
        return shared.close_user(numbers[0])
    if call == CALL_CODE:
        return shared.code_of(numbers[0])
    if call == CALL_SAY:
        return shared.say(numbers[0], numbers[1], row)
    if call == CALL_LINE:
        return shared.tell_line()
    return shared.hear(numbers[0], numbers[1], row)


def answers(calls):
    shared = SharedLine()
    told = []
    place = 0
    while place < len(calls):
        call = calls[place]
        behind = place + 1 + NUMBERS_BEHIND[call]
        numbers = calls[place + 1:behind]
        row = []
        if has_row(call):
            first = behind + 1
            behind = first + calls[behind]
            row = calls[first:behind]
        answer = answer_one(shared, call, numbers, row)
        told.append(len(answer))
        told.extend(answer)
        place = behind
    return told
