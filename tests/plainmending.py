"""Mending and albums once more, in another way than in the package."""

from helpers import right_word
from plaindisks import disk_for, packed
from plainwrites import plain_choose


def is_body(items, kind):
    if kind == "file":
        return all(right_word(item) for item in items)
    names = [item[0] for item in items if type(item) is tuple]
    return len(names) == len(items) and names == sorted(set(names))


def plain_mended(disk):
    """Return the disk that is mended."""
    size = len(disk)
    slots = [slot and list(slot) for rows in disk[1:5] for slot in rows]
    blocks = [list(block) for block in disk]
    if slots[0] is None or slots[0][0] == "file":
        slots[0] = ["folder", "a", "rwrw", 0, ()]
    own, bodies = {}, {}
    for number, slot in enumerate(slots):
        if slot is None:
            continue
        row = [block for start, count in slot[4] for block in range(start, start + count)]
        earlier = {block for other in own.values() for block in other}
        many = 0
        while many < len(row) and 5 <= row[many] < size and row[many] not in row[:many] and row[many] not in earlier:
            many += 1
        items = [item for block in row[:many] for item in blocks[block]]
        length = max(at for at in range(slot[3] + 1) if at <= len(items) and is_body(items[:at], slot[0]))
        own[number], bodies[number] = row[:(length + 3) // 4], items[:length]
    level, led, reached = [0], {0}, {0}
    while level:
        following = []
        for folder in level:
            kept = []
            for name, number in bodies[folder]:
                if slots[number] is None or number == 0:
                    continue
                if slots[number][0] == "folder":
                    if number in led:
                        continue
                    led.add(number)
                    following.append(number)
                reached.add(number)
                kept.append((name, number))
            if len(kept) < len(bodies[folder]):
                for at in range(4 * len(own[folder])):
                    blocks[own[folder][at // 4]][at % 4] = kept[at] if at < len(kept) else ""
                own[folder], bodies[folder] = own[folder][:(len(kept) + 3) // 4], kept
        level = following
    rows = [None] * 16
    for number in reached:
        rows[number] = tuple(slots[number][:3]) + (len(bodies[number]), packed(own[number]))
    used = set(range(5)) | {block for number in reached for block in own[number]}
    signs = "".join("#" if block in used else "." for block in range(size))
    return (signs,) + tuple(tuple(rows[at:at + 4]) for at in (0, 4, 8, 12)) + tuple(map(tuple, blocks[5:]))


def plain_loss(disk):
    before = [slot for rows in disk[1:5] for slot in rows]
    after = [slot for rows in plain_mended(disk)[1:5] for slot in rows]
    found = []
    for number in range(16):
        one, other = before[number], after[number]
        if one is None:
            if number == 0:
                found.append(number)
        elif other is None or (one[0], one[3]) != (other[0], other[3]):
            found.append(number)
    return found


class Full(Exception):
    """There is no room."""


class PlainAlbum:
    """An album in which each view is a dict of the blocks of the nodes."""

    def __init__(self, table, size):
        disk = disk_for(table, size)
        self.size, self.now, self.values = size, table, {block: disk[block] for block in range(5, size)}
        self.places, at = {}, 5
        for number, _, _, _, body in table:
            many = (len(body) + 3) // 4
            self.places[number] = list(range(at, at + many))
            at += many
        self.kept = {}

    def had(self, names):
        return {block for name in names for row in self.kept[name][1].values() for block in row}

    def present(self):
        return {block for row in self.places.values() for block in row}

    def free(self):
        return self.size - 5 - len(self.had(self.kept) | self.present())

    def change(self, table):
        """Return the number of the blocks that were chosen, or raise Full."""
        fixed, values, places, many = self.had(self.kept), dict(self.values), {}, 0
        had = {number: list(row) for number, row in self.places.items()}
        old, new = {node[0]: node for node in self.now}, {node[0]: node for node in table}
        for number in range(16):
            row = had.pop(number, [])
            if number not in new:
                continue
            body = new[number][4]
            need = (len(body) + 3) // 4
            if number in old and old[number][1] == new[number][1]:
                mine = row if old[number][4] == body else row[:need]
            else:
                mine = []
            wanted = []
            for at, block in enumerate(mine):
                value = list(values[block])
                value[:len(body[4 * at:4 * at + 4])] = body[4 * at:4 * at + 4]
                wanted.append(tuple(value))
            away = [at for at, block in enumerate(mine) if wanted[at] != values[block] and block in fixed]
            used = fixed | set(row)
            used |= {block for other in list(had.values()) + list(places.values()) for block in other}
            signs = "#" * 5 + "".join("#" if block in used else "." for block in range(5, self.size))
            more = plain_choose(signs, len(away) + max(0, need - len(mine)))
            if more is None:
                raise Full
            many += len(more)
            mine = list(mine)
            for at in away:
                mine[at] = more.pop(0)
            for at, block in enumerate(mine):
                values[block] = wanted[at]
            for at in range(len(mine), need):
                value = list(values[more[0]])
                value[:len(body[4 * at:4 * at + 4])] = body[4 * at:4 * at + 4]
                values[more[0]] = tuple(value)
                mine.append(more.pop(0))
            places[number] = mine
        self.now, self.values, self.places = table, values, places
        return many

    def take(self, name):
        self.kept[name] = (self.now, {number: list(row) for number, row in self.places.items()})

    def alone(self, name):
        others = [other for other in self.kept if other != name]
        return len(self.had([name]) - self.had(others) - self.present())

    def drop(self, name):
        before = self.free()
        del self.kept[name]
        return self.free() - before

    def go_back(self, name):
        gone = self.present() - self.had(self.kept)
        self.now, self.places = self.kept[name][0], {number: list(row) for number, row in self.kept[name][1].items()}
        return len(gone)
