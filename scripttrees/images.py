"""Disks as lists of strings."""

from scripttrees.blocks import FIRST_DATA_BLOCK, FIRST_TABLE_BLOCK, are_blocks, blocks_in, check_disk, slots_of
from scripttrees.errors import ParseError

# A longer number is nowhere on a disk.
MOST_DIGITS = 2
LETTERS = "ABCDEFGHIJKLMNOP"


def slot_text(slot):
    """Return the text of a slot."""
    if slot is None:
        return "-"
    kind, owner, rights, length, extents = slot
    texts = [str(start) + "+" + str(count) for start, count in extents]
    return " ".join([kind, owner, rights, str(length)] + texts)


def item_text(item):
    """Return the text of an item of a data block."""
    if item == "":
        return "."
    if isinstance(item, str):
        return item
    return item[0] + ">" + str(item[1])


def image_of(disk):
    """Return what image returns, for what is known to be a disk."""
    lines = list(disk[:FIRST_TABLE_BLOCK])
    for block in disk[FIRST_TABLE_BLOCK:FIRST_DATA_BLOCK]:
        lines.append(" | ".join([slot_text(slot) for slot in block]))
    for block in disk[FIRST_DATA_BLOCK:]:
        lines.append(" ".join([item_text(item) for item in block]))
    return lines


def image(disk):
    """Return the image of a disk."""
    check_disk(disk)
    return image_of(disk)


def guessed_number(text):
    """Return the number that a text may stand for, or None."""
    if text.isascii() and text.isdigit() and len(text) <= MOST_DIGITS:
        return int(text)
    return None


def guessed_slot(text):
    """Return the only slot that may have a text; if none has it, it may be anything."""
    if text == "-":
        return None
    parts = text.split(" ")
    extents = []
    for part in parts[4:]:
        start, _, count = part.partition("+")
        extents.append((guessed_number(start), guessed_number(count)))
    return tuple(parts[:3] + [guessed_number(part) for part in parts[3:4]] + [tuple(extents)])


def guessed_item(text):
    """Return the only item that may have a text; if none has it, it may be anything."""
    if text == ".":
        return ""
    name, sign, number = text.partition(">")
    if sign == "":
        return text
    return name, guessed_number(number)


def guessed_disk(lines):
    """Return the only disk that may have some lines as its image; if none has it, it may be anything."""
    blocks = list(lines[:FIRST_TABLE_BLOCK])
    for line in lines[FIRST_TABLE_BLOCK:FIRST_DATA_BLOCK]:
        blocks.append(tuple([guessed_slot(text) for text in line.split(" | ")]))
    for line in lines[FIRST_DATA_BLOCK:]:
        blocks.append(tuple([guessed_item(text) for text in line.split(" ")]))
    return tuple(blocks)


def read_image(lines):
    """Return the disk that has lines as its image."""
    if not isinstance(lines, list) or not all([isinstance(line, str) for line in lines]):
        raise ParseError("this is not a list of strings")
    disk = guessed_disk(lines)
    # The guess is lenient; its image tells whether each sign of the lines was right.
    if not are_blocks(disk) or image_of(disk) != lines:
        raise ParseError("this is not the image of a disk")
    return disk


def usage(disk):
    """Return the string that tells with one sign for each block what the block is used for."""
    check_disk(disk)
    signs = list("m" + "t" * (FIRST_DATA_BLOCK - FIRST_TABLE_BLOCK) + disk[0][FIRST_DATA_BLOCK:])
    slots = slots_of(disk)
    # The least number comes last, as it counts where several nodes have a block.
    for number in sorted(slots, reverse=True):
        for block in blocks_in(slots[number]):
            if FIRST_DATA_BLOCK <= block < len(disk):
                signs[block] = LETTERS[number]
    return "".join(signs)
