"""The interface: a list of calls in, the list of their answers out."""

from standins.arguments import read_calls
from standins.model import Session
from standins.operations import perform


def answers(calls):
    session = Session()
    answered = []
    for call in read_calls(calls):
        answer = perform(session, call)
        answered.append(len(answer))
        answered.extend(answer)
    return answered
