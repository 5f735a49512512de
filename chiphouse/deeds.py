"""What each kind of instruction does to machine and world, and what a trap does."""

from chiphouse.instructions import kind_of, part_of
from chiphouse.reckoning import plus, reckon
from chiphouse.words import WORDS
from chiphouse.world import put_at, read_at

TRAP_PLACE = 2
FIRST_TRAP_CAUSE = 16

# Each deed, a trap too, gives back where pc is then and leaves pc itself as it was,
# so that a deed knows its own place from its beginning to its end.


def place_behind(machine):
    return (machine.pc + 1) % WORDS


def reg_at(machine, word, name):
    return machine.regs[part_of(word, name)]


def set_reg_d(machine, word, v):
    machine.regs[part_of(word, "d")] = v


def trap(machine, cause, place):
    machine.came_from = place
    machine.cause = cause
    machine.may = 0
    return TRAP_PLACE


def do_reckon(machine, world, word):
    x = reg_at(machine, word, "a")
    y = reg_at(machine, word, "b")
    set_reg_d(machine, word, reckon(kind_of(word), part_of(word, "f"), x, y))
    return place_behind(machine)


def sum_a_i6(machine, word):
    return plus(reg_at(machine, word, "a"), part_of(word, "i6"))


def do_addi(machine, world, word):
    set_reg_d(machine, word, sum_a_i6(machine, word))
    return place_behind(machine)


def do_ldi(machine, world, word):
    set_reg_d(machine, word, part_of(word, "i9"))
    return place_behind(machine)


def do_ldh(machine, world, word):
    low = reg_at(machine, word, "d") % 256
    set_reg_d(machine, word, part_of(word, "i8") * 256 + low)
    return place_behind(machine)


def do_ld(machine, world, word):
    set_reg_d(machine, word, read_at(world, sum_a_i6(machine, word)))
    return place_behind(machine)


def do_st(machine, world, word):
    put_at(world, sum_a_i6(machine, word), reg_at(machine, word, "d"))
    return place_behind(machine)


def branch_place(machine, word):
    return plus(place_behind(machine), part_of(word, "i9"))


def do_bz(machine, world, word):
    if reg_at(machine, word, "d") == 0:
        return branch_place(machine, word)
    return place_behind(machine)


def do_bnz(machine, world, word):
    if reg_at(machine, word, "d") != 0:
        return branch_place(machine, word)
    return place_behind(machine)


def do_jal(machine, world, word):
    set_reg_d(machine, word, place_behind(machine))
    return branch_place(machine, word)


def do_jr(machine, world, word):
    # Before rd is changed, which may be ra.
    place = sum_a_i6(machine, word)
    set_reg_d(machine, word, place_behind(machine))
    return place


def do_trap(machine, world, word):
    return trap(machine, FIRST_TRAP_CAUSE + part_of(word, "k"), place_behind(machine))


def do_ret(machine, world, word):
    machine.may = 1
    return machine.came_from


def tell_from(machine, word):
    set_reg_d(machine, word, machine.came_from)


def tell_cause(machine, word):
    set_reg_d(machine, word, machine.cause)


def set_from(machine, word):
    machine.came_from = reg_at(machine, word, "d")


def set_may(machine, word):
    machine.may = reg_at(machine, word, "d") % 2


def tell_may(machine, word):
    set_reg_d(machine, word, machine.may)


# The deeds of kind 13, by f.
OWN_DEEDS = (tell_from, tell_cause, set_from, set_may, tell_may)


def do_own(machine, world, word):
    deed = OWN_DEEDS[part_of(word, "f")]
    deed(machine, word)
    return place_behind(machine)


def do_halt(machine, world, word):
    machine.halted = 1
    return machine.pc


DEEDS = {
    0: do_reckon,
    1: do_reckon,
    2: do_addi,
    3: do_ldi,
    4: do_ldh,
    5: do_ld,
    6: do_st,
    7: do_bz,
    8: do_bnz,
    9: do_jal,
    10: do_jr,
    11: do_trap,
    12: do_ret,
    13: do_own,
    14: do_halt,
}


def do_instruction(machine, world, word):
    """Do what an instruction's word tells; give back where pc is then."""
    deed = DEEDS[kind_of(word)]
    return deed(machine, world, word)
