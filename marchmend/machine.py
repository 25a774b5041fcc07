"""How harmed cells act on what is done to them. What is handed in here was looked at by the callers."""

from marchmend.harms import cells_of, little


def stuck_bit(harms, cell):
    for harm in harms:
        if harm[0] == "stuck" and harm[1] == cell:
            return harm[2]
    return None


def put(harms, cells, cell, bit):
    # All that would make a cell hold another bit comes by here, so that a stuck one never does.
    if stuck_bit(harms, cell) is None:
        cells[cell] = bit


def settle(harms, cells):
    # What stands at first: put leaves the stuck cells alone, so they get their bit ahead of the keeps.
    for cell in range(len(cells)):
        bit = stuck_bit(harms, cell)
        if bit is not None:
            cells[cell] = bit
    for harm in harms:
        if harm[0] == "keeps" and cells[harm[1]] == harm[3]:
            put(harms, cells, harm[2], harm[4])


def harm_of_address(harms, address):
    for harm in harms:
        if harm[0] in ("nowhere", "other", "both") and harm[1] == address:
            return harm
    return None


def reached_cells(harm, address):
    if harm is None:
        return [address]
    if harm[0] == "nowhere":
        return []
    if harm[0] == "other":
        return [harm[2]]
    return [address, harm[2]]


def read_cell(harms, cells, cell):
    held = cells[cell]
    for harm in harms:
        if harm[0] in ("forgets", "misreads") and harm[1] == cell and harm[2] == held:
            put(harms, cells, cell, 1 - held)
            return held if harm[0] == "forgets" else cells[cell]
    return held


def read_at(harms, cells, address):
    harm = harm_of_address(harms, address)
    bits = []
    for cell in reached_cells(harm, address):
        bits.append(read_cell(harms, cells, cell))
    if len(bits) == 0:
        return harm[2]
    if len(bits) == 1:
        return bits[0]
    return min(bits) if harm[3] == "and" else max(bits)


def is_slow(harms, cells, cell, bit):
    return cells[cell] != bit and ("slow", cell, bit) in harms


def kept_bit(harms, cells, cell, bit):
    for harm in harms:
        if harm[0] == "keeps" and harm[2] == cell and cells[harm[1]] == harm[3]:
            return harm[4]
    return bit


def act_on_others(harms, cells, cell):
    # What this does to other cells goes by put alone, so it sets off nothing further.
    for harm in harms:
        if harm[0] in ("turns", "sets", "keeps") and harm[1] == cell and harm[3] == cells[cell]:
            put(harms, cells, harm[2], 1 - cells[harm[2]] if harm[0] == "turns" else harm[4])


def write_cell(harms, cells, cell, bit):
    if is_slow(harms, cells, cell, bit):
        return
    held = cells[cell]
    put(harms, cells, cell, kept_bit(harms, cells, cell, bit))
    if cells[cell] != held:
        act_on_others(harms, cells, cell)


def write_at(harms, cells, address, bit):
    for cell in reached_cells(harm_of_address(harms, address), address):
        write_cell(harms, cells, cell, bit)


def deeds(order, steps, size):
    # An element over so many addresses: (address, the step's number in the element, step), as they come.
    found = []
    for turn in range(size):
        address = turn if order == "up" else size - 1 - turn
        for place, step in enumerate(steps):
            found.append((address, place, step))
    return found


def doings_of(order, steps, size):
    return [(address, step) for address, place, step in deeds(order, steps, size)]


def taken_for(order):
    return ["up", "down"] if order == "any" else [order]


def all_contents(count):
    found = [()]
    for turn in range(count):
        found = [(0,) + contents for contents in found] + [(1,) + contents for contents in found]
    return found


def stepped(harms, contents, address, step):
    cells = list(contents)
    if step[0] == "w":
        write_at(harms, cells, address, step[1])
    elif read_at(harms, cells, address) != step[1]:
        return None
    return tuple(cells)


class Little:
    # A memory of few cells, whose contents are tuples. The same step is asked for of the
    # same contents again and again, so what came of each is kept.
    def __init__(self, harms, span):
        self.harms = list(harms)
        self.span = span
        self.found = {}

    def made_of(self, contents):
        cells = list(contents)
        settle(self.harms, cells)
        return tuple(cells)

    def firsts(self):
        # All that it can hold at first, each with contents of which it is then made:
        # with the very same where these stand.
        made = {}
        for contents in all_contents(self.span):
            held = self.made_of(contents)
            if held not in made or held == contents:
                made[held] = contents
        return made

    def done(self, contents, address, step):
        # None where another bit is read than is to come.
        asked = (contents, address, step)
        if asked not in self.found:
            self.found[asked] = stepped(self.harms, contents, address, step)
        return self.found[asked]

    def gone_through(self, contents, doings):
        for address, step in doings:
            contents = self.done(contents, address, step)
            if contents is None:
                return None
        return contents

    def gone_over(self, contents, order, steps):
        return self.gone_through(contents, doings_of(order, steps, self.span))


def little_memory(harms):
    return Little(little(harms), len(cells_of(harms)))
