"""Brands: numbers of things by which all loops' things to come can be told, as few as can be."""

from stirround.deeds import place_of
from stirround.loops import check_loops


def brands(row, loops):
    check_loops(row, loops)
    numbers = numbers_of(row, loops)
    return (numbers, [key_of(row, numbers, loop) for loop in loops])


def parting_loop(row, loops, one, other):
    check_loops(row, loops)
    place_of(row, one)
    place_of(row, other)
    for number, loop in enumerate(loops):
        if (one in loop[2]) != (other in loop[2]):
            return number
    return None


def numbers_of(row, loops):
    number_by_loops = {}
    numbers = []
    for thing in row:
        has_it = tuple([thing in loop[2] for loop in loops])
        if has_it not in number_by_loops:
            number_by_loops[has_it] = len(number_by_loops)
        numbers.append(number_by_loops[has_it])
    return numbers


def key_of(row, numbers, loop):
    return sorted(set([number for thing, number in zip(row, numbers) if thing in loop[2]]))
