"""A harmed memory told once more, in another way than the program does, to hold the program against it."""


class Plain:
    """Keeps, for each cell and each address, what the harms say of it, looked up once."""

    def __init__(self, size, harms, contents):
        self.cells = dict(enumerate(contents))
        self.stuck, self.slow, self.reading, self.reach = {}, set(), {}, {}
        self.acts = {cell: [] for cell in range(size)}
        self.kept = {cell: [] for cell in range(size)}
        for word, cell, *rest in harms:
            if word == "stuck":
                self.stuck.setdefault(cell, rest[0])
            elif word == "slow":
                self.slow.add((cell, 1 - rest[0], rest[0]))
            elif word in ("forgets", "misreads"):
                told = rest[0] if word == "forgets" else 1 - rest[0]
                self.reading.setdefault((cell, rest[0]), told)
            elif word in ("nowhere", "other", "both"):
                self.reach.setdefault(cell, (word, rest))
            else:
                self.acts[cell].append((rest[1], rest[0], None if word == "turns" else rest[2]))
            if word == "keeps":
                self.kept[rest[0]].append((cell, rest[1], rest[2]))
        self.cells.update(self.stuck)
        for word, cell, *rest in harms:
            if word == "keeps" and self.cells[cell] == rest[1]:
                self.change(rest[0], rest[2])

    def change(self, cell, bit):
        self.cells[cell] = self.stuck.get(cell, bit)

    def reached(self, address):
        word, rest = self.reach.get(address, ("own", None))
        return {"own": [address], "nowhere": [], "other": rest and rest[:1], "both": rest and [address, rest[0]]}[word]

    def read_one(self, cell):
        held = self.cells[cell]
        if (cell, held) not in self.reading or cell in self.stuck:
            return held
        self.cells[cell] = 1 - held
        return self.reading[cell, held]

    def read(self, address):
        bits = [self.read_one(cell) for cell in self.reached(address)]
        if not bits:
            return self.reach[address][1][0]
        if len(bits) == 1:
            return bits[0]
        return bits[0] & bits[1] if self.reach[address][1][1] == "and" else bits[0] | bits[1]

    def write(self, address, bit):
        for cell in self.reached(address):
            held = self.cells[cell]
            if (cell, held, bit) in self.slow:
                continue
            self.change(cell, next((v for a, u, v in self.kept[cell] if self.cells[a] == u), bit))
            if self.cells[cell] != held:
                for u, other, v in self.acts[cell]:
                    if u != held:
                        self.change(other, 1 - self.cells[other] if v is None else v)

    def holds(self):
        return [self.cells[cell] for cell in sorted(self.cells)]
