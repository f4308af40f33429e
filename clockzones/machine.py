"""A list of calls, answered one behind another."""

from clockzones.clock_machine import Machine
from clockzones.machine_calls import machine_answer
from clockzones.reading import INIT, read_call
from clockzones.refusals import NoSuchRun, NotAllowed, OutOfReach
from clockzones.zone_calls import zone_answer


def answers(calls):
    """For each call how many numbers are answered, then these."""
    machine = Machine()
    said = []
    start = 0
    while start < len(calls):
        call = read_call(calls, start)
        answer = answer_to(machine, call)
        said.append(len(answer))
        said.extend(answer)
        start = call.after
    return said


def answer_to(machine, call):
    try:
        return [0] + told_by(machine, call)
    except NotAllowed:
        return [-1]
    except OutOfReach:
        return [-2]
    except NoSuchRun:
        return [-3]


def told_by(machine, call):
    # The calls on the machine are numbered from init on.
    if call.number < INIT:
        return zone_answer(call)
    return machine_answer(machine, call)
