"""The machine: its registers, and where it stands."""

from chiphouse.refusals import OUT_OF_RANGE

REGS = 8


class Machine:
    """A machine as at first. What the manual calls from is came_from here: from is Python's own word."""

    def __init__(self):
        self.regs = [0] * REGS
        self.pc = 0
        self.may = 0
        self.came_from = 0
        self.cause = 0
        self.halted = 0


def copy_machine(machine):
    copied = Machine()
    copied.regs = list(machine.regs)
    copied.pc = machine.pc
    copied.may = machine.may
    copied.came_from = machine.came_from
    copied.cause = machine.cause
    copied.halted = machine.halted
    return copied


def get_reg(machine, i):
    if i >= REGS:
        return [OUT_OF_RANGE]
    return [machine.regs[i]]


def set_reg(machine, i, v):
    if i >= REGS:
        return [OUT_OF_RANGE]
    machine.regs[i] = v
    return [0]


def go_to(machine, p):
    machine.pc = p
    machine.halted = 0
    return [0]


def tell_state(machine):
    return [machine.pc, machine.may, machine.came_from, machine.cause, machine.halted]
