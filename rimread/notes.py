"""Nets and grids written as texts, and texts of nets read."""

from rimread.errors import NoText
from rimread.names import is_name
from rimread.writing import fraction_shown, worth_from_text

MOST_POSTS = 6


def net_shown(net):
    rows = [["rim"] + net[0]]
    rows.extend([["at", point] + wires for point, wires in net[1]])
    rows.extend([["wire", wire, fraction_shown(worth)] for wire, worth in net[2]])
    return "\n".join([" ".join(words) for words in rows])


def names_read(words):
    if not all([is_name(word) for word in words]):
        raise NoText("a name has one to eight signs, small letters or figures")
    return words


def posts_read(words):
    if words[0] != "rim" or not 1 <= len(words) - 1 <= MOST_POSTS:
        raise NoText("the first row tells one to six posts of the rim")
    return names_read(words[1:])


def point_read(words):
    if len(words) < 2:
        raise NoText("a row of a point tells its name and its wires")
    names = names_read(words[1:])
    return (names[0], names[1:])


def wire_read(words):
    if len(words) != 3:
        raise NoText("a row of a wire tells its name and its worth")
    names = names_read(words[1:2])
    worth = worth_from_text(words[2])
    if worth is None:
        raise NoText("a worth is written as its top and bottom in lowest terms")
    return (names[0], worth)


def net_read(text):
    rows = [row.split(" ") for row in text.split("\n")]
    posts = posts_read(rows[0])
    points = []
    worths = []
    for words in rows[1:]:
        if words[0] == "at" and len(worths) == 0:
            points.append(point_read(words))
        elif words[0] == "wire":
            worths.append(wire_read(words))
        else:
            raise NoText("rows of points come first, then rows of wires, and no others")
    return (posts, points, worths)


def grid_shown(grid):
    return "\n".join([" ".join([fraction_shown(entry) for entry in row]) for row in grid])
