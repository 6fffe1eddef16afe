"""Calls on one net, one behind another in one list of whole numbers."""

from goingon.session import Session

BEGIN = 11
FEED = 12
FORGET = 13
TELL = 14
GO_ON = 15
# The calls from FORGET on have no row: so many whole numbers stand behind each.
PLAIN_NUMBERS = (1, 0, 2, 3)


def answers(calls):
    session = Session()
    answered = []
    at = 0
    while at < len(calls):
        end = call_end(calls, at)
        answer = answer_one(session, calls[at:end])
        answered.append(len(answer))
        answered.extend(answer)
        at = end
    return answered


def call_end(calls, at):
    if calls[at] in (BEGIN, FEED):
        return at + 2 + calls[at + 1]
    return at + 1 + PLAIN_NUMBERS[calls[at] - FORGET]


def answer_one(session, call):
    if call[0] == BEGIN:
        return session.begin(call[2:])
    if call[0] == FEED:
        return session.feed(call[2:])
    if call[0] == FORGET:
        return session.forget(call[1])
    if call[0] == TELL:
        return session.tell()
    if call[0] == GO_ON:
        return session.go_on(call[1], call[2])
    return session.write(call[1], call[2], call[3])
