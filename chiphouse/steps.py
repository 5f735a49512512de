"""Steps: one by itself, a run of them, a trace of them."""

from chiphouse.deeds import do_instruction, trap
from chiphouse.instructions import read_instruction
from chiphouse.refusals import OUT_OF_RANGE
from chiphouse.world import fetch_at

MOST_TRACED = 64

# What a step was. The second and the third are the causes of their traps, too.
INSTRUCTION = 0
INTERRUPT = 1
NO_INSTRUCTION = 2

# Why a run ended.
ALL_DONE = 0
HALTED = 1
AT_STOP = 2


def step(machine, world, is_up):
    """Do a step of a machine that isn't halted, the line being up or not; give back what it was."""
    if is_up and machine.may == 1:
        machine.pc = trap(machine, INTERRUPT, machine.pc)
        return INTERRUPT
    word = fetch_at(world, machine.pc)
    if read_instruction(word) is None:
        machine.pc = trap(machine, NO_INSTRUCTION, machine.pc)
        return NO_INSTRUCTION
    machine.pc = do_instruction(machine, world, word)
    return INSTRUCTION


def line_ups(ups):
    """A dict with True for each step at which the line is up."""
    steps = {}
    for number in ups:
        steps[number] = True
    return steps


def is_stopped(machine, stops, done):
    # A stop doesn't hold up a run's first step: a run from a stop would never get away from it.
    return done > 0 and machine.pc in stops


def why_ended(machine, n, done):
    if machine.halted == 1:
        return HALTED
    if done == n:
        return ALL_DONE
    return AT_STOP


def run_steps(machine, world, stops, n, ups):
    steps_up = line_ups(ups)
    done = 0
    while machine.halted == 0 and done < n and not is_stopped(machine, stops, done):
        step(machine, world, done in steps_up)
        done = done + 1
    return [done, why_ended(machine, n, done)]


def trace_steps(machine, world, n, ups):
    if n > MOST_TRACED:
        return [OUT_OF_RANGE]
    steps_up = line_ups(ups)
    traced = []
    done = 0
    while machine.halted == 0 and done < n:
        traced.append(machine.pc)
        traced.append(fetch_at(world, machine.pc))
        traced.append(step(machine, world, done in steps_up))
        done = done + 1
    return [done] + traced
