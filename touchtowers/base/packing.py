"""Rows of integers as one long integer.

Adding and multiplying long integers is much faster than doing the same with each entry. The entries must not be
below 0, and each of them needs enough room that it does not run over into the next one.
"""


def room_for(bound):
    """How many hex digits each entry needs if none is above the bound."""
    return len(f"{bound:x}")


def packed(entries, room):
    """The integer whose hex digits are those of the entries, the first entry in front."""
    # A digit 0 in front, for no entries at all.
    return int("0" + "".join([f"{entry:x}".zfill(room) for entry in entries]), 16)


def unpacked(prime, number, room, many):
    """The residues that so many packed entries leave, a list."""
    size = room * many
    text = f"{number:x}".zfill(size)
    return [int(text[start:start + room], 16) % prime for start in range(0, size, room)]


def unpacked_entry(prime, number, room, place):
    """The residue that one packed entry leaves, counted from the last one."""
    return (number >> (4 * room * place)) % (1 << (4 * room)) % prime
