"""Bits: counts, numbers and instructions, and how they are read."""

from stopanywhere.coding import (
    bits_of_count, bits_of_instruction, bits_of_number, count_at, has_instruction_form, is_bit_string, number_at,
    read_instruction,
)
from stopanywhere.errors import BadAddress, BadBits, BadInstruction, BadNumber, BadRegisters
from stopanywhere.values import is_list, is_number, is_number_between


def count_bits(number):
    """The bits of a number from 0 on."""
    if not is_number(number) or number < 0:
        raise BadNumber("no number from 0 on")
    return bits_of_count(number)


def number_bits(number):
    """The bits of any number."""
    if not is_number(number):
        raise BadNumber("no number")
    return bits_of_number(number)


def read_count(bits, at):
    """The pair of the number from 0 on whose bits begin at an index, and the index behind; None if they are cut off."""
    _check_place(bits, at)
    return count_at(bits, at)


def read_number(bits, at):
    """The same of any number."""
    _check_place(bits, at)
    return number_at(bits, at)


def _check_place(bits, at):
    _check_bits(bits)
    if not is_number_between(at, 0, len(bits)):
        raise BadNumber("no index of the bits")


def _check_bits(bits):
    if not is_bit_string(bits):
        raise BadBits(None)


def _check_registers(registers):
    if not is_number_between(registers, 6, 9):
        raise BadRegisters("no number from 6 to 9")


def is_instruction(registers, thing):
    """Whether any value is an instruction for so many registers."""
    _check_registers(registers)
    return has_instruction_form(registers, thing)


def bits_of(registers, instructions):
    """The bits of instructions, one behind another."""
    _check_registers(registers)
    if not is_list(instructions):
        raise BadInstruction(None)
    for at, told in enumerate(instructions):
        if not has_instruction_form(registers, told):
            raise BadInstruction(at)
    return "".join([bits_of_instruction(told) for told in instructions])


def read_bits(registers, bits):
    """The list of the pairs (address, instruction) of which bits consist."""
    _check_registers(registers)
    _check_bits(bits)
    found = []
    at = 0
    while at < len(bits):
        told = read_instruction(registers, bits, at)
        if told is None:
            raise BadBits(at)
        found.append((at, told[0]))
        at = told[1]
    return found


def instruction_at(registers, bits, address):
    """The pair of the instruction that begins at an address and the address behind it."""
    _check_registers(registers)
    _check_bits(bits)
    found = read_instruction(registers, bits, address) if is_number_between(address, 0, len(bits)) else None
    if found is None:
        raise BadAddress("no instruction begins there")
    return found
