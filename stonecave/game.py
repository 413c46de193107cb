"""The calls of one line, read from one list of whole numbers, and all their answers in another."""

from stonecave.session import Session, answer_call

# The calls that are handed a row, with its length before it.
ROW_CALLS = (0, 11)
# How many numbers each of the other calls is handed.
GIVEN_COUNTS = {1: 1, 2: 1, 3: 1, 4: 1, 5: 1, 6: 0, 7: 2, 8: 1, 9: 1, 10: 0, 12: 0, 13: 1}


def given_begin(calls, at):
    return at + 2 if calls[at] in ROW_CALLS else at + 1


def given_end(calls, at):
    count = calls[at + 1] if calls[at] in ROW_CALLS else GIVEN_COUNTS[calls[at]]
    return given_begin(calls, at) + count


def answers(calls):
    session = Session()
    told = []
    at = 0
    while at < len(calls):
        call_end = given_end(calls, at)
        answer = answer_call(session, calls[at], calls[given_begin(calls, at):call_end])
        told.append(len(answer))
        told.extend(answer)
        at = call_end
    return told
