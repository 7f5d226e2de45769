"""A pinball table's memory: two halves, written in an order in which one of them is whole at any moment.

A content is one list: eight audits; coins, balls, warnings, players, what a level gives, ticks;
how many levels, they; eight entries of the best, each its score and three letters.
"""

LOAD = 1
READ = 2
PLAN = 3
SAVE = 4
CUT = 5
BYTES_OF = 6
CRC = 7

DONE = 0
NOT_512 = -1
NOTHING = -4
NOT_RIGHT = -8

MEMORY_SIZE = 512
HALF_SIZE = 256
MARK = (0x54, 0x4C, 0x4B, 0x31)
NUMBER_END = 0x100000000
ALL_BITS = 0xFFFFFFFF
POLYNOMIAL = 0x82F63B78

SCORE_END = 0x1000000000000
SCORE_DIGITS = 12
MOST_LEVELS = 4

# Where these stand in a content's list.
SETUP = 8
TICKS = 13
LEVEL_COUNT = 14
LEVELS = 15

# The least and the most of coins, balls, warnings, players, what a level gives, ticks.
SETUP_BOUNDS = ((1, 9), (1, 9), (0, 9), (1, 4), (0, 1), (0, 100000))


class UnknownCall(ValueError):
    pass


def octets_of(number, size):
    return [(number >> (8 * place)) & 255 for place in range(size)]


def number_of(octets):
    number = 0
    for octet in reversed(octets):
        number = number * 256 + octet
    return number


def crc_of(octets):
    bits = ALL_BITS
    for octet in octets:
        bits = bits ^ octet
        for turn in range(8):
            fell_out = bits % 2
            bits = bits // 2
            if fell_out == 1:
                bits = bits ^ POLYNOMIAL
    return bits ^ ALL_BITS


def is_score(number):
    if number >= SCORE_END:
        return False
    return all([(number >> (4 * place)) % 16 <= 9 for place in range(SCORE_DIGITS)])


def is_letter(octet):
    return octet == 32 or (octet >= 65 and octet <= 90)


def levels_of(content):
    return content[LEVELS:LEVELS + content[LEVEL_COUNT]]


def entries_of(content):
    best = content[LEVELS + content[LEVEL_COUNT]:]
    return [best[place:place + 4] for place in range(0, len(best), 4)]


def is_setup_right(setup):
    for number, bounds in zip(setup, SETUP_BOUNDS):
        if number < bounds[0] or number > bounds[1]:
            return False
    return True


def are_levels_right(levels):
    # From 0 on, rising says above 0 too.
    before = 0
    for level in levels:
        if level <= before or not is_score(level):
            return False
        before = level
    return True


def is_best_right(entries):
    before = SCORE_END
    for entry in entries:
        if entry[0] > before or not is_score(entry[0]):
            return False
        if not all([is_letter(letter) for letter in entry[1:]]):
            return False
        before = entry[0]
    return True


def is_right(content):
    if not is_setup_right(content[SETUP:LEVEL_COUNT]):
        return False
    return are_levels_right(levels_of(content)) and is_best_right(entries_of(content))


def octets_of_content(content):
    levels = levels_of(content)
    octets = []
    for audit in content[:SETUP]:
        octets.extend(octets_of(audit, 8))
    octets.extend(content[SETUP:TICKS] + [0] * 3)
    octets.extend(octets_of(content[TICKS], 4) + [0] * 4)
    for level in levels + [0] * (MOST_LEVELS - len(levels)):
        octets.extend(octets_of(level, 8))
    for entry in entries_of(content):
        octets.extend(octets_of(entry[0], 8) + entry[1:] + [0] * 5)
    return octets


def numbers_of(octets):
    return [number_of(octets[place:place + 8]) for place in range(0, len(octets), 8)]


def content_of(octets):
    levels = numbers_of(octets[80:112])
    # No right level is 0, so the first 0 tells how many there are.
    level_count = (levels + [0]).index(0)
    content = numbers_of(octets[:64]) + octets[64:69] + [number_of(octets[72:76])]
    content.extend([level_count] + levels[:level_count])
    for place in range(112, 240, 16):
        content.append(number_of(octets[place:place + 8]))
        content.extend(octets[place + 8:place + 11])
    return content


def new_half(number, content):
    summed = list(MARK) + octets_of(number, 4) + octets_of_content(content)
    crc = crc_of(summed)
    return summed + octets_of(crc, 4) + octets_of(crc ^ ALL_BITS, 4)


def half_at(octets, half):
    return octets[half * HALF_SIZE:(half + 1) * HALF_SIZE]


def number_in(half_octets):
    return number_of(half_octets[4:8])


def content_in(half_octets):
    return content_of(half_octets[8:248])


def is_whole(half_octets):
    content = content_in(half_octets)
    if not is_right(content):
        return False
    # Made anew, it shows at once each byte that is not as a whole half has it: mark, zeros, levels, sums.
    return half_octets == new_half(number_in(half_octets), content)


def number_behind(half_octets):
    return (number_in(half_octets) + 1) % NUMBER_END


def half_read(octets):
    whole = [half for half in (0, 1) if is_whole(half_at(octets, half))]
    if len(whole) == 0:
        return None
    if len(whole) == 1:
        return whole[0]
    if number_in(half_at(octets, 1)) == number_behind(half_at(octets, 0)):
        return 1
    return 0


def writes_over(old, new):
    writes = []
    # Without its first byte a half that's being written is never whole. Where that byte isn't 54H it's left
    # alone: a write that the power cuts could make whole what an earlier plan had left unfinished.
    if old[0] == MARK[0]:
        writes.append((0, 0))
    for place in list(range(4, HALF_SIZE)) + [1, 2, 3, 0]:
        writes.append((place, new[place]))
    return writes


def writes_until_cut(writes, k, x):
    done = writes[:k]
    if k < len(writes):
        done.append((writes[k][0], x))
    return done


class Plan:
    def __init__(self, octets, content):
        read = half_read(octets)
        self.half = 0 if read is None else 1 - read
        number = 0 if read is None else number_behind(half_at(octets, read))
        self.writes = writes_over(half_at(octets, self.half), new_half(number, content))


class Memory:
    def __init__(self):
        self.octets = [0] * MEMORY_SIZE

    def load(self, octets):
        if len(octets) != MEMORY_SIZE:
            return [NOT_512]
        self.octets = list(octets)
        return [DONE]

    def read(self):
        half = half_read(self.octets)
        if half is None:
            return [NOTHING]
        return [DONE, half] + content_in(half_at(self.octets, half))

    def plan(self, content):
        if not is_right(content):
            return [NOT_RIGHT]
        planned = Plan(self.octets, content)
        answer = [DONE, planned.half]
        for place, octet in planned.writes:
            answer.extend([place, octet])
        return answer

    def save(self, content):
        if not is_right(content):
            return [NOT_RIGHT]
        planned = Plan(self.octets, content)
        self.write(planned.half, planned.writes)
        return [DONE, planned.half]

    def cut(self, content, k, x):
        if not is_right(content):
            return [NOT_RIGHT]
        planned = Plan(self.octets, content)
        self.write(planned.half, writes_until_cut(planned.writes, k, x))
        return [DONE, planned.half]

    def bytes_of(self):
        return [DONE] + self.octets

    def write(self, half, writes):
        for place, octet in writes:
            self.octets[half * HALF_SIZE + place] = octet


def call_size(calls, place):
    if calls[place] in (READ, BYTES_OF):
        return 1
    if calls[place] in (LOAD, PLAN, SAVE, CRC):
        return 2 + calls[place + 1]
    if calls[place] == CUT:
        return 4 + calls[place + 3]
    raise UnknownCall("no such call")


def answer_to(call, memory):
    if call[0] == LOAD:
        return memory.load(call[2:])
    if call[0] == READ:
        return memory.read()
    if call[0] == PLAN:
        return memory.plan(call[2:])
    if call[0] == SAVE:
        return memory.save(call[2:])
    if call[0] == CUT:
        # A call's whole numbers stand before its row.
        return memory.cut(call[4:], call[1], call[2])
    if call[0] == BYTES_OF:
        return memory.bytes_of()
    return [DONE, crc_of(call[2:])]


def answers(calls):
    memory = Memory()
    told = []
    place = 0
    while place < len(calls):
        size = call_size(calls, place)
        answer = answer_to(calls[place:place + size], memory)
        told.extend([len(answer)] + answer)
        place = place + size
    return told
