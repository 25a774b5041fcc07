"""Memories, sound or harmed, that are written and read."""

from marchmend.errors import NoAddress, NoBit, NoMemory
from marchmend.harms import MOST_CELLS, cells_of
from marchmend.machine import read_at, settle, write_at
from marchmend.marches import is_bit, is_whole


def is_size(thing):
    return is_whole(thing) and thing >= 1 and thing <= MOST_CELLS


def are_contents(thing, size):
    return isinstance(thing, list) and len(thing) == size and all([is_bit(part) for part in thing])


def look_at_memory(size, harms, contents):
    cells = cells_of(harms)
    if not is_size(size):
        raise NoMemory("the size is no whole number from 1 to 64")
    if len(cells) > 0 and cells[-1] >= size:
        raise NoMemory("a harm is on a cell that is not below the size")
    if not are_contents(contents, size):
        raise NoMemory("the contents are no list of as many bits as the size tells")


def look_at_bit(thing):
    if not is_bit(thing):
        raise NoBit("only 0 or 1 can be written")


class Memory:
    def __init__(self, size, harms, contents):
        look_at_memory(size, harms, contents)
        self.harms = list(harms)
        self.cells = list(contents)
        settle(self.harms, self.cells)

    def look_at_address(self, address):
        if not is_whole(address) or address < 0 or address >= len(self.cells):
            raise NoAddress("no such address")

    def read(self, address):
        self.look_at_address(address)
        return read_at(self.harms, self.cells, address)

    def write(self, address, bit):
        self.look_at_address(address)
        look_at_bit(bit)
        write_at(self.harms, self.cells, address, bit)

    def holds(self):
        return list(self.cells)

    def size(self):
        return len(self.cells)
