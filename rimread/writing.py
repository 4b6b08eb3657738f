"""Whole numbers, fractions and worths in figures: written, and read where they are written just so."""

from rimread.fractions import fraction, is_worth

FIGURES = "0123456789"
BLOCK_LENGTH = 64


# Block by block, for Python turns no number of more than some thousand figures into a text, nor back.
def whole_shown(number):
    block = 10 ** 64
    blocks = []
    left = abs(number)
    while left >= block:
        blocks.append(str(left % block).zfill(BLOCK_LENGTH))
        left = left // block
    blocks.append(str(left))
    if number < 0:
        blocks.append("-")
    return "".join(reversed(blocks))


def fraction_shown(value):
    top = whole_shown(value[0])
    bottom = whole_shown(value[1])
    return f"{top}/{bottom}"


def is_in_figures(text):
    if len(text) == 0 or not all([sign in FIGURES for sign in text]):
        return False
    return len(text) == 1 or text[0] != "0"


# None where it is written otherwise, with a sign, for instance, or with noughts ahead.
def whole_from_text(text):
    if not is_in_figures(text):
        return None
    block = 10 ** 64
    ahead = len(text) % BLOCK_LENGTH
    number = int(text[:ahead]) if ahead > 0 else 0
    for start in range(ahead, len(text), BLOCK_LENGTH):
        number = number * block + int(text[start:start + BLOCK_LENGTH])
    return number


# None where it is written otherwise, or isn't in lowest terms.
def fraction_from_text(text):
    parts = text.split("/")
    if len(parts) != 2:
        return None
    below = parts[0].startswith("-")
    top = whole_from_text(parts[0][1:] if below else parts[0])
    bottom = whole_from_text(parts[1])
    if top is None or bottom is None or bottom == 0:
        return None
    if fraction(top, bottom) != (top, bottom) or (below and top == 0):
        return None
    return (-top, bottom) if below else (top, bottom)


def worth_from_text(text):
    value = fraction_from_text(text)
    return value if is_worth(value) else None
