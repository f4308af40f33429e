"""A list of calls, answered one behind another."""

from clockzones.reading import read_call
from clockzones.refusals import NotAllowed, OutOfReach
from clockzones.zone_calls import zone_answer


def answers(calls):
    """For each call how many numbers are answered, then these."""
    said = []
    start = 0
    while start < len(calls):
        call = read_call(calls, start)
        answer = answer_to(call)
        said.append(len(answer))
        said.extend(answer)
        start = call.after
    return said


def answer_to(call):
    try:
        return [0] + zone_answer(call)
    except NotAllowed:
        return [-1]
    except OutOfReach:
        return [-2]
