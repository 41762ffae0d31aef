"""What a reckoner keeps: eight registers in a ring, the way, the length and the flags."""

from ringreckon.codes import NEAREST
from ringreckon.number import EMPTY, LONGEST

REGISTERS = 8


class Ring:
    """The top is at 0 of registers, the i-th behind it at i."""

    def __init__(self):
        self.begin()

    def begin(self):
        self.way = NEAREST
        self.length = LONGEST
        self.flags = 0
        self.registers = [EMPTY] * REGISTERS

    def set_flags(self, flags):
        self.flags = self.flags | flags

    def is_empty(self, i):
        return self.registers[i] == EMPTY

    def is_full(self):
        """Whether nothing can be pushed: the last one, which would be the top, is taken."""
        return self.registers[REGISTERS - 1] != EMPTY

    def push(self, number):
        self.registers = [number] + self.registers[:REGISTERS - 1]

    def take_top(self):
        number = self.registers[0]
        self.registers = self.registers[1:] + [EMPTY]
        return number

    def swap(self, i):
        number = self.registers[0]
        self.registers[0] = self.registers[i]
        self.registers[i] = number

    def turn(self, steps):
        """Each k becomes what k + steps, round the ring, was."""
        start = steps % REGISTERS
        self.registers = self.registers[start:] + self.registers[:start]
