"""A harmed memory told once more, in another way than the program does, to hold the program against it."""

import functools
import itertools


class Plain:
    """Keeps, for each cell and each address, what the harms say of it, looked up once."""

    def __init__(self, size, harms, contents):
        self.cells = dict(enumerate(contents))
        self.stuck, self.slow, self.reading, self.reach = {}, set(), {}, {}
        self.acts = {cell: [] for cell in range(size)}
        self.kept = {cell: [] for cell in range(size)}
        for word, cell, *rest in harms:
            if word == "stuck":
                self.stuck.setdefault(cell, rest[0])
            elif word == "slow":
                self.slow.add((cell, 1 - rest[0], rest[0]))
            elif word in ("forgets", "misreads"):
                told = rest[0] if word == "forgets" else 1 - rest[0]
                self.reading.setdefault((cell, rest[0]), told)
            elif word in ("nowhere", "other", "both"):
                self.reach.setdefault(cell, (word, rest))
            else:
                self.acts[cell].append((rest[1], rest[0], None if word == "turns" else rest[2]))
            if word == "keeps":
                self.kept[rest[0]].append((cell, rest[1], rest[2]))
        self.cells.update(self.stuck)
        for word, cell, *rest in harms:
            if word == "keeps" and self.cells[cell] == rest[1]:
                self.change(rest[0], rest[2])

    def change(self, cell, bit):
        self.cells[cell] = self.stuck.get(cell, bit)

    def reached(self, address):
        word, rest = self.reach.get(address, ("own", None))
        return {"own": [address], "nowhere": [], "other": rest and rest[:1], "both": rest and [address, rest[0]]}[word]

    def read_one(self, cell):
        held = self.cells[cell]
        if (cell, held) not in self.reading or cell in self.stuck:
            return held
        self.cells[cell] = 1 - held
        return self.reading[cell, held]

    def read(self, address):
        bits = [self.read_one(cell) for cell in self.reached(address)]
        if not bits:
            return self.reach[address][1][0]
        if len(bits) == 1:
            return bits[0]
        return bits[0] & bits[1] if self.reach[address][1][1] == "and" else bits[0] | bits[1]

    def write(self, address, bit):
        for cell in self.reached(address):
            held = self.cells[cell]
            if (cell, held, bit) in self.slow:
                continue
            self.change(cell, next((v for a, u, v in self.kept[cell] if self.cells[a] == u), bit))
            if self.cells[cell] != held:
                for u, other, v in self.acts[cell]:
                    if u != held:
                        self.change(other, 1 - self.cells[other] if v is None else v)

    def holds(self):
        return [self.cells[cell] for cell in sorted(self.cells)]


def orders_of(test):
    """All orders for a test."""
    free = [("up", "down") if order == "any" else (order,) for order, steps in test]
    return [list(orders) for orders in itertools.product(*free)]


def way_of(order, size):
    return range(size) if order == "up" else range(size - 1, -1, -1)


def plain_reads(test, size, harms, contents, orders):
    """All reads as (element, address, step, bit)."""
    memory = Plain(size, harms, contents)
    told = []
    for number, (order, steps) in enumerate(test):
        for address in way_of(orders[number], size):
            for place, (letter, bit) in enumerate(steps):
                if letter == "w":
                    memory.write(address, bit)
                else:
                    told.append((number, address, place, memory.read(address)))
    return told


def plainly_shows(test, size, harms, contents, orders):
    return any(bit != test[element][1][step][1]
               for element, address, step, bit in plain_reads(test, size, harms, contents, orders))


def all_bits(size):
    return [list(contents) for contents in itertools.product((0, 1), repeat=size)]


def plainly_told(test, size, harms):
    """Whether in a memory of this size something shows, whatever its contents and orders."""
    return all(plainly_shows(test, size, harms, contents, orders)
               for contents in all_bits(size) for orders in orders_of(test))


def standing(size, harms, contents):
    """A memory that holds just these contents, whatever stands at first."""
    memory = Plain(size, harms, contents)
    memory.cells = dict(enumerate(contents))
    return memory


def led_to(size, harms, contents, address, step):
    """What stands behind a step, None where it shows something."""
    memory = standing(size, harms, contents)
    if step[0] == "w":
        memory.write(address, step[1])
    elif memory.read(address) != step[1]:
        return None
    return tuple(memory.holds())


def firsts_of(size, harms):
    return sorted({tuple(Plain(size, harms, contents).holds()) for contents in all_bits(size)})


def plain_table(test, size, harms):
    """The table with just what comes so, and what comes behind the last step."""
    table = []
    ahead = firsts_of(size, harms)
    for order, steps in test:
        behind = set()
        columns = []
        for taken in ("up", "down"):
            if order not in (taken, "any"):
                columns.append(None)
                continue
            lists = [ahead]
            for address in way_of(taken, size):
                for step in steps:
                    found = {led_to(size, harms, contents, address, step) for contents in lists[-1]}
                    lists.append(sorted(found - {None}))
            behind |= set(lists.pop())
            columns.append(lists)
        table.append((ahead, columns[0], columns[1]))
        ahead = sorted(behind)
    return table, ahead


def parts_of(test, size, table):
    """All (list, step at an address, the list that it leads to) of a table in the right form; None as the last."""
    parts = []
    for number, (order, steps) in enumerate(test):
        behind = table[number + 1][0] if number + 1 < len(test) else None
        for taken, column in (("up", table[number][1]), ("down", table[number][2])):
            if column is not None:
                done = [(address, step) for address in way_of(taken, size) for step in steps]
                for (address, step), ahead, after in zip(done, column, column[1:] + [behind]):
                    parts.append((ahead, address, step, after))
    return parts


def plainly_lets(test, size, harms, table):
    """Whether a table in the right form is let by."""
    for row in table:
        if any(column is not None and not set(row[0]) <= set(column[0]) for column in row[1:]):
            return False
    if not set(firsts_of(size, harms)) <= set(table[0][0]):
        return False
    return all(led_to(size, harms, contents, address, step) in [None] + (after or [])
               for ahead, address, step, after in parts_of(test, size, table) for contents in ahead)


def close(test, size, harms, table):
    """Puts into a table what has to stand there, and tells whether something comes behind the last step."""
    while True:
        added, over = False, False
        pairs = [(contents, column[0]) for row in table for column in row[1:] if column is not None
                 for contents in row[0]]
        pairs += [(led_to(size, harms, contents, address, step), after)
                  for ahead, address, step, after in parts_of(test, size, table) for contents in ahead]
        for contents, wanted in pairs:
            if contents is not None and wanted is None:
                over = True
            elif contents is not None and contents not in wanted:
                wanted.append(contents)
                added = True
        if not added:
            return over


def span_of(harm):
    """How many cells a harm of cells 0 and 1 has."""
    return 1 if harm[0] in ("stuck", "slow", "forgets", "misreads", "nowhere") else 2


def plain_first_stand(harms):
    return (None, tuple(tuple(firsts_of(span_of(harm), [harm])) for harm in harms))


@functools.lru_cache(maxsize=None)
def behind_element(harm, contents, order, steps):
    for address in way_of(order, span_of(harm)):
        for step in steps:
            contents = led_to(span_of(harm), [harm], contents, address, step)
            if contents is None:
                return None
    return contents


def plain_stand_behind(harms, stand, order, steps):
    known, lists = stand
    for letter, bit in steps:
        known = bit if letter == "w" else known
    behind = [{behind_element(harm, contents, order, tuple(steps)) for contents in standing} - {None}
              for harm, standing in zip(harms, lists)]
    return (known, tuple(tuple(sorted(found)) for found in behind))


@functools.lru_cache(maxsize=None)
def sure_steps(known, count):
    """All tuples of just so many steps whose reads are sure by known."""
    if count == 0:
        return [()]
    heads = [(("w", 0), 0), (("w", 1), 1)] + ([] if known is None else [(("r", known), known)])
    return [(step,) + rest for step, then in heads for rest in sure_steps(then, count - 1)]


def plainly_lets_numbers(harms, length, rows):
    """Whether numbers of stands in the right form are let by."""
    numbers = dict(rows)
    if len(numbers) < len(rows) or numbers.get(plain_first_stand(harms)) != 0:
        return False
    for stand, number in rows:
        if number < length and not any(stand[1]):
            return False
        for count in range(1, length - number):
            for order, steps in itertools.product(("up", "down"), sure_steps(stand[0], count)):
                behind = plain_stand_behind(harms, stand, order, steps)
                if numbers.get(behind, length) > number + count:
                    return False
    return True


def tests_of(length, known=None):
    """All sure tests without any of just so many steps."""
    if length == 0:
        yield []
    for count in range(1, length + 1):
        for steps in sure_steps(known, count):
            then = [known] + [bit for letter, bit in steps if letter == "w"]
            for rest in tests_of(length - count, then[-1]):
                for order in ("up", "down"):
                    yield [(order, list(steps))] + rest


def plainly_tells(test, harms):
    return all(plainly_told(test, span_of(harm), [harm]) for harm in harms)


def in_word_order(order, words, width, steps):
    """(cell, bit of its word, step) as a step goes over a word, then the next step, then the next word."""
    return [(word * width + bit, bit, step) for word in way_of(order, words) for step in steps for bit in range(width)]


def plain_words_reads(test, width, backgrounds, words, harms, contents, orders):
    """All reads over words as (bit that was read, bit that was to come)."""
    memory = Plain(words * width, harms, contents)
    told = []
    for background, taken in zip(backgrounds, orders):
        for (order, steps), way in zip(test, taken):
            for cell, bit, (letter, asked) in in_word_order(way, words, width, steps):
                meant = asked ^ int(background[bit])
                if letter == "w":
                    memory.write(cell, meant)
                else:
                    told.append((memory.read(cell), meant))
    return told


def plainly_shows_in_words(*given):
    return any(read != meant for read, meant in plain_words_reads(*given))


def word_orders_of(test, backgrounds):
    return [list(orders) for orders in itertools.product(orders_of(test), repeat=len(backgrounds))]


def plain_leaving_reads(test, size, harms, contents, orders):
    """For each address all its reads, turned back."""
    memory = Plain(size, harms, contents)
    told = {address: [] for address in range(size)}
    for (order, steps), way in zip(test, orders):
        for address in way_of(way, size):
            for letter, turn in steps:
                if letter == "w":
                    memory.write(address, contents[address] ^ turn)
                else:
                    told[address].append(memory.read(address) ^ turn)
    return told, memory.holds()


def plain_leaving_shown(test, size, harms, contents, orders):
    told, held = plain_leaving_reads(test, size, harms, contents, orders)
    return next((address for address in range(size) if len(set(told[address])) > 1), None)
