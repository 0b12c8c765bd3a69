"""A linkage's text, line by line.

Each thing is looked at as soon as it stands whole, before what follows it: so every check here
comes straight behind the read it is about.
"""

from barstacks.factors import common_factor
from barstacks.linkage import Linkage
from barstacks.reader import BLANK, LINE_END, SLASH, Reader, TextFault


def linkage_of(text):
    """The linkage that the text tells; TextFault if it tells none."""
    reader = Reader(text)
    linkage = Linkage(text)
    read_line(reader, linkage)
    while not reader.at_end():
        read_line(reader, linkage)
    if linkage.cranks == 0:
        raise TextFault(reader.place)
    return linkage


def read_line(reader, linkage):
    start = reader.place
    word = reader.first_word()
    if not linkage.has_room_for(word):
        raise TextFault(start)
    reader.expect(BLANK)
    name = read_new_name(reader, linkage)
    reader.expect(BLANK)
    if word == "pin":
        read_pin(reader, linkage, name)
    elif word == "crank":
        read_crank(reader, linkage, name)
    elif word == "dyad":
        read_dyad(reader, linkage, name)
    else:
        read_rider(reader, linkage, name)
    reader.expect(LINE_END)


def read_pin(reader, linkage, name):
    start = reader.place
    x = reader.signed_number()
    reader.expect(BLANK)
    y = reader.signed_number()
    if linkage.has_pin_at(x, y):
        raise TextFault(start)
    linkage.add_pin(name, x, y)


def read_crank(reader, linkage, name):
    start = reader.place
    p = read_known_name(reader, linkage)
    if not linkage.is_fixed(p):
        raise TextFault(start)
    reader.expect(BLANK)
    reach = read_reach(reader)
    linkage.add_crank(name, p, reach)


def read_dyad(reader, linkage, name):
    p = read_known_name(reader, linkage)
    reader.expect(BLANK)
    p_reach = read_reach(reader)
    reader.expect(BLANK)
    q = read_other_name(reader, linkage, p)
    reader.expect(BLANK)
    q_reach = read_reach(reader)
    linkage.add_dyad(name, p, p_reach, q, q_reach)


def read_rider(reader, linkage, name):
    p = read_known_name(reader, linkage)
    reader.expect(BLANK)
    start = reader.place
    q = read_other_name(reader, linkage, p)
    if linkage.piece_with_ends(p, q) is None:
        raise TextFault(start)
    reader.expect(BLANK)
    along = read_fraction(reader)
    reader.expect(BLANK)
    aside = read_fraction(reader)
    linkage.add_rider(name, p, q, along, aside)


def read_new_name(reader, linkage):
    start = reader.place
    name = reader.name()
    if name in linkage.line_of:
        raise TextFault(start)
    return name


def read_known_name(reader, linkage):
    """The line of a name that is there."""
    start = reader.place
    name = reader.name()
    if name not in linkage.line_of:
        raise TextFault(start)
    return linkage.line_of[name]


def read_other_name(reader, linkage, p):
    start = reader.place
    q = read_known_name(reader, linkage)
    if q == p:
        raise TextFault(start)
    return q


def read_reach(reader):
    start = reader.place
    reach = reader.signed_number()
    # At most 999 it is by its form.
    if reach < 1:
        raise TextFault(start)
    return reach


def read_fraction(reader):
    start = reader.place
    n = reader.signed_number()
    if reader.here() != SLASH:
        return (n, 1)
    reader.expect(SLASH)
    d = reader.number()
    if not 2 <= d <= 20 or common_factor(n, d) != 1:
        raise TextFault(start)
    return (n, d)
