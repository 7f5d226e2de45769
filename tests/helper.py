"""What the tests share: contents, halves made by other means than the program's, calls, answers."""

import random
import struct

from halfwhole.memory import answers

MAX64 = 2 ** 64 - 1
MAX32 = 2 ** 32 - 1
MARK = b"TLK1"
TOP = 0x999999999999
COINS, BALLS, WARNINGS, PLAYERS, GIVES, TICKS = range(6)


def entries(scores=None, letters=b"ABC"):
    if scores is None:
        scores = [0x900, 0x800, 0x700, 0x600, 0x500, 0x400, 0x300, 0x200]
    return [(score, *letters) for score in scores]


def content(audits=None, setup=(1, 3, 2, 4, 0, 1000), levels=(), best=None):
    if audits is None:
        audits = range(11, 19)
    if best is None:
        best = entries()
    told = list(audits) + list(setup) + [len(levels)] + list(levels)
    for entry in best:
        told.extend(entry)
    return told


def with_setup(place, number):
    setup = [1, 3, 2, 4, 0, 1000]
    setup[place] = number
    return content(setup=setup)


def with_entry(place, entry, score=0x500):
    best = entries([score] * 8)
    best[place] = tuple(entry)
    return content(best=best)


def crc(octets):
    """The CRC-32C as one long division, not as the document's steps: bits turned round, polynomial 11EDC6F41H."""
    bits = "".join(f"{octet:08b}"[::-1] for octet in octets)
    rest = (int("0" + bits, 2) << 32) ^ (MAX32 << len(bits))
    while rest.bit_length() > 32:
        rest ^= 0x11EDC6F41 << (rest.bit_length() - 33)
    return int(f"{rest:032b}"[::-1], 2) ^ MAX32


def packed(told):
    """A content's 240 bytes."""
    count = told[14]
    levels = told[15:15 + count] + [0] * (4 - count)
    octets = struct.pack("<8Q5B3xI4x4Q", *told[:14], *levels)
    for place in range(15 + count, 47 + count, 4):
        octets += struct.pack("<Q3B5x", *told[place:place + 4])
    return octets


def unpacked(octets):
    """The content that 240 bytes tell, be it right or not."""
    numbers = struct.unpack("<8Q5B3xI4x4Q" + "Q3B5x" * 8, bytes(octets))
    levels = [level for level in numbers[14:18] if level]
    return [*numbers[:14], len(levels), *levels, *numbers[18:]]


def sealed(number, octets):
    """A half about these 240 bytes, with a right sum, be they a right content's or not."""
    summed = MARK + struct.pack("<I", number) + octets
    total = crc(summed)
    return list(summed + struct.pack("<II", total, total ^ MAX32))


def whole(number, told):
    return sealed(number, packed(told))


def load(octets):
    return [1, len(octets)] + list(octets)


READ = [2]
BYTES_OF = [6]


def plan(told):
    return [3, len(told)] + list(told)


def save(told):
    return [4, len(told)] + list(told)


def cut(told, k, x):
    return [5, k, x, len(told)] + list(told)


def sum_of(octets):
    return [7, len(octets)] + list(octets)


def ask(*calls):
    """Each call's answer, as a list of its own."""
    flat = answers([number for call in calls for number in call])
    split = []
    place = 0
    while place < len(flat):
        split.append(flat[place + 1:place + 1 + flat[place]])
        place += 1 + flat[place]
    return split


def read_of(octets):
    return ask(load(octets), READ)[1]


def writes_to(old, new):
    """The writes, by the document, that make an old half a new one: place and byte by turns."""
    writes = [0, 0] if old[0] == 0x54 else []
    for place in [*range(4, 256), 1, 2, 3, 0]:
        writes += [place, new[place]]
    return writes


def cut_off(writes, k, x):
    """The writes, by the document, that are done where the power goes behind k of them with x."""
    return writes[:2 * k] + [*writes[2 * k:2 * k + 1], x][:len(writes[2 * k:])]


def written(octets, half, writes):
    """These 512 bytes behind these writes."""
    octets = list(octets)
    for place, octet in zip(writes[::2], writes[1::2], strict=True):
        octets[256 * half + place] = octet
    return octets


def is_score(number):
    digits = f"{number:x}"
    return len(digits) <= 12 and digits.isdigit()


def is_right(told):
    setup, count = told[8:14], told[14]
    levels, best = told[15:15 + count], told[15 + count:]
    scores = best[::4]
    letters = [letter for place, letter in enumerate(best) if place % 4]
    return (
        len(told) == 47 + count
        and all(0 <= audit <= MAX64 for audit in told[:8])
        and all(low <= number <= high for number, low, high in zip(setup, (1, 1, 0, 1, 0, 0), (9, 9, 9, 4, 1, 100000)))
        and levels == sorted(set(levels)) and 0 not in levels and all(map(is_score, levels))
        and scores == sorted(scores, reverse=True) and all(map(is_score, scores))
        and all(chr(letter) in " ABCDEFGHIJKLMNOPQRSTUVWXYZ" for letter in letters)
    )


def some_content(seed):
    """A right content, the same for the same seed."""
    source = random.Random(seed)
    scores = [int(str(source.randrange(10 ** source.randint(1, 12))), 16) for place in range(8)]
    levels = {int(str(source.randrange(1, 10 ** 12)), 16) for place in range(source.randint(0, 4))}
    return content(
        audits=[source.randrange(2 ** source.randint(1, 64)) for place in range(8)],
        setup=[source.randint(1, 9), source.randint(1, 9), source.randint(0, 9), source.randint(1, 4),
               source.randint(0, 1), source.randint(0, 100000)],
        levels=sorted(levels),
        best=[(score, *source.choices(b" ABCXYZ", k=3)) for score in sorted(scores, reverse=True)],
    )


class Model:
    """The document's words once more, told apart from the program: what each call answers, and the bytes behind it."""

    def __init__(self):
        self.octets = [0] * 512

    def half(self, place):
        return self.octets[256 * place:256 * place + 256]

    def number(self, place):
        return int.from_bytes(self.half(place)[4:8], "little")

    def content(self, place):
        return unpacked(self.half(place)[8:248])

    def is_whole(self, place):
        if self.half(place)[:4] != list(MARK):
            return False
        told = self.content(place)
        return is_right(told) and self.half(place) == whole(self.number(place), told)

    def half_read(self):
        found = [place for place in (0, 1) if self.is_whole(place)]
        if len(found) == 2:
            return int((self.number(0) + 1) % 2 ** 32 == self.number(1))
        return found[0] if found else None

    def planned(self, told):
        place = self.half_read()
        half = 0 if place is None else 1 - place
        number = 0 if place is None else (self.number(place) + 1) % 2 ** 32
        return half, writes_to(self.half(half), whole(number, told))

    def read(self):
        place = self.half_read()
        return [-4] if place is None else [0, place, *self.content(place)]

    def answer(self, call):
        if call[0] == 1:
            if call[1] == 512:
                self.octets = call[2:]
            return [0] if call[1] == 512 else [-1]
        if call[0] == 2:
            return self.read()
        if call[0] == 6:
            return [0, *self.octets]
        if call[0] == 7:
            return [0, crc(call[2:])]
        told = call[4:] if call[0] == 5 else call[2:]
        if not is_right(told):
            return [-8]
        half, writes = self.planned(told)
        if call[0] == 3:
            return [0, half, *writes]
        done = cut_off(writes, call[1], call[2]) if call[0] == 5 else writes
        self.octets = written(self.octets, half, done)
        return [0, half]


# Two contents, and halves that hold none.
OLD = content(audits=[1] * 8)
NEW = content(audits=[2] * 8, levels=[0x1, 0x20, 0x300, 0x4000])
EMPTY = [0] * 256
JUNK = [(n * 13 + 1) % 256 for n in range(256)]

# Right contents that lie just inside the document's edges.
RIGHT = {
    "plain": content(),
    "audits 0": content(audits=[0] * 8),
    "audits most": content(audits=[MAX64] * 8),
    "coins 1": with_setup(COINS, 1),
    "coins 9": with_setup(COINS, 9),
    "balls 1": with_setup(BALLS, 1),
    "balls 9": with_setup(BALLS, 9),
    "warnings 0": with_setup(WARNINGS, 0),
    "warnings 9": with_setup(WARNINGS, 9),
    "players 1": with_setup(PLAYERS, 1),
    "players 4": with_setup(PLAYERS, 4),
    "gives 0": with_setup(GIVES, 0),
    "gives 1": with_setup(GIVES, 1),
    "ticks 0": with_setup(TICKS, 0),
    "ticks 100000": with_setup(TICKS, 100000),
    "one level, least": content(levels=[1]),
    "one level, most": content(levels=[TOP]),
    "levels by a step": content(levels=[0x9, 0x10, 0x11, 0x12]),
    "four levels": content(levels=[0x1234567, 0x2000000, 0x99999999, TOP]),
    "scores 0": content(best=entries([0] * 8)),
    "scores most": content(best=entries([TOP] * 8)),
    "scores falling by a step": content(best=entries([0x10, 9, 8, 7, 6, 5, 4, 3])),
    "letters A": content(best=entries(letters=b"AAA")),
    "letters Z": content(best=entries(letters=b"ZZZ")),
    "letters blank": content(best=entries(letters=b"   ")),
}


def wrong_setups():
    for name, place, numbers in (
        # 257, 256 and the like would be right by their lowest bytes alone.
        ("coins", COINS, (0, 10, 255, 256, 257, MAX32)),
        ("balls", BALLS, (0, 10, 255, 256, 257, MAX32)),
        ("warnings", WARNINGS, (10, 255, 256, 257, MAX32)),
        ("players", PLAYERS, (0, 5, 255, 256, 257, MAX32)),
        ("ticks", TICKS, (100001, 2 ** 31, MAX32)),
    ):
        for number in numbers:
            yield f"{name} {number}", with_setup(place, number)


def wrong_levels():
    for levels in (
        [0], [0, 1], [1, 0], [1, 2, 0], [1, 2, 3, 0], [1, 0, 2], [0, 0, 0, 0],
        [5, 5], [1, 5, 5], [1, 2, 5, 5], [6, 5], [1, 6, 5], [1, 2, 6, 5], [2, 3, 4, 1],
        *([digit << (4 * place)] for place in range(12) for digit in (10, 15)),
        [1, 0xA], [1, 2, 0x1F], [1, 2, 3, 0xA000],
        [2 ** 48], [2 ** 48 + 1], [1, 2 ** 48], [1, 2, 3, 2 ** 48], [2 ** 63], [MAX64],
    ):
        yield f"levels {levels}", content(levels=levels)


def wrong_scores():
    for number in (*(digit << (4 * place) for place in range(12) for digit in (10, 15)),
                   2 ** 48, 2 ** 48 + 1, 2 ** 63, MAX64):
        # All eight the same, so that none is above the one before.
        yield f"scores {number:x}", content(best=entries([number] * 8))
    yield "the last score is none", content(best=entries([0x900] * 7 + [0xA]))
    for place in range(1, 8):
        yield f"score {place} above the one before", with_entry(place, (0x501, 65, 66, 67))


def wrong_letters():
    for entry in range(8):
        for place in range(3):
            for octet in (0, 31, 33, 64, 91, 97, 122, 255):
                letters = [65, 66, 67]
                letters[place] = octet
                yield f"entry {entry}, letter {place}: {octet}", with_entry(entry, (0x500, *letters))


WRONG = dict([*wrong_setups(), *wrong_levels(), *wrong_scores(), *wrong_letters()])
