"""Tests over words of several bits, with backgrounds."""

from marchmend.errors import NoOrders
from marchmend.harms import cells_of
from marchmend.judging import first_ways, one_of_ways, ways_behind
from marchmend.machine import little_memory, taken_for
from marchmend.marches import is_whole, look_at_test
from marchmend.memory import Memory
from marchmend.running import are_orders
from marchmend.tables import look_at_asked


def places_by_word(cells, width):
    # The cells' places among these, word by word; of words that have none of them nothing is told.
    found = {}
    for place, cell in enumerate(cells):
        found.setdefault(cell // width, []).append(place)
    return list(found.values())


def step_on(step, background, bit):
    return step if background[bit] == "0" else (step[0], 1 - step[1])


def word_doings(cells, width, background, order, steps):
    words = places_by_word(cells, width)
    doings = []
    for places in words if order == "up" else list(reversed(words)):
        for step in steps:
            doings.extend([(place, step_on(step, background, cells[place] % width)) for place in places])
    return doings


def are_word_orders(test, backgrounds, thing):
    if not isinstance(thing, list) or len(thing) != len(backgrounds):
        return False
    return all([are_orders(test, part) for part in thing])


def look_at_word_orders(test, backgrounds, thing):
    if not are_word_orders(test, backgrounds, thing):
        raise NoOrders("no list with orders for each background")


def bits_in(words, width):
    # None, which is no size, where there is no such number.
    return words * width if is_whole(words) and is_whole(width) else None


def reads_by(memory, doings):
    told = []
    for address, step in doings:
        if step[0] == "w":
            memory.write(address, step[1])
        else:
            told.append(memory.read(address))
    return told


def words_reads(test, width, backgrounds, words, harms, contents, orders):
    look_at_test(test)
    memory = Memory(bits_in(words, width), harms, contents)
    look_at_word_orders(test, backgrounds, orders)
    cells = list(range(memory.size()))
    told = []
    for background, taken in zip(backgrounds, orders):
        for element, order in zip(test, taken):
            told.extend(reads_by(memory, word_doings(cells, width, background, order, element[1])))
    return told


def ways_over_words(memory, cells, width, background, element, ways):
    doings = {}
    for order in taken_for(element[0]):
        doings[order] = word_doings(cells, width, background, order, element[1])
    return ways_behind(ways, element[0], lambda contents, order: memory.gone_through(contents, doings[order]))


def parted(orders, length):
    return [orders[start:start + length] for start in range(0, len(orders), length)]


def words_judged(test, width, backgrounds, harms):
    look_at_asked(test, harms)
    memory = little_memory(harms)
    cells = cells_of(harms)
    ways = first_ways(memory)
    for background in backgrounds:
        for element in test:
            ways = ways_over_words(memory, cells, width, background, element, ways)
    if len(ways) == 0:
        return ("told", None)
    way = one_of_ways(ways)
    return ("let", way[0], parted(way[1], len(test)))


def are_parted(backgrounds, one, other):
    return any([background[one] != background[other] for background in backgrounds])


def background_of(width, worth):
    return "".join([str(bit // worth % 2) for bit in range(width)])


def fewest_backgrounds(width):
    found = []
    worth = 1
    while worth < width:
        found.append(background_of(width, worth))
        worth = worth * 2
    # A single bit has none to be parted from, and yet is gone over once.
    return sorted(found) if len(found) > 0 else ["0"]
