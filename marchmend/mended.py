"""Memories with spare rows and lines in the place of broken ones."""

from marchmend.errors import NoMemory, NoSpares
from marchmend.harms import look_at_harms
from marchmend.marches import is_whole
from marchmend.memory import Memory, look_at_bit

MOST_ROWS = 8


def broken_cell(harm):
    # A cell that acts on another one is sound itself, but the other reads wrong.
    return harm[2] if harm[0] in ("turns", "sets", "keeps") else harm[1]


def broken_of(harms, lines):
    look_at_harms(harms)
    return sorted(set([divmod(broken_cell(harm), lines) for harm in harms]))


def is_count(thing):
    return is_whole(thing) and thing >= 1 and thing <= MOST_ROWS


def are_spares(thing, count):
    if not isinstance(thing, list) or not all([is_whole(part) for part in thing]):
        return False
    return thing == sorted(set(thing)) and all([part >= 0 and part < count for part in thing])


def look_at_counts(rows, lines):
    if not is_count(rows) or not is_count(lines):
        raise NoMemory("the rows or the lines are no whole number from 1 to 8")


def look_at_spares(rows, lines, spare_rows, spare_lines):
    if not are_spares(spare_rows, rows) or not are_spares(spare_lines, lines):
        raise NoSpares("no sorted lists of unlike rows and of unlike lines that are there")


class Mended:
    def __init__(self, rows, lines, harms, contents, spare_rows, spare_lines):
        look_at_harms(harms)
        look_at_counts(rows, lines)
        self.harmed = Memory(rows * lines, harms, contents)
        look_at_spares(rows, lines, spare_rows, spare_lines)
        self.spare = {}
        for address, bit in enumerate(contents):
            if address // lines in spare_rows or address % lines in spare_lines:
                self.spare[address] = bit

    def read(self, address):
        self.harmed.look_at_address(address)
        return self.spare[address] if address in self.spare else self.harmed.read(address)

    def write(self, address, bit):
        self.harmed.look_at_address(address)
        look_at_bit(bit)
        if address in self.spare:
            self.spare[address] = bit
        else:
            self.harmed.write(address, bit)

    def holds(self):
        return [self.spare.get(address, bit) for address, bit in enumerate(self.harmed.holds())]

    def size(self):
        return self.harmed.size()
