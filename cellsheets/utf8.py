"""Whether bytes, told as whole numbers, are well made UTF-8."""

# The least and the most first byte, how many bytes follow it, the least and the most of the one right behind it.
# The narrower ranges keep out what is longer than needed, surrogates, and what is above U+10FFFF.
SHAPES = (
    (0x00, 0x7F, 0, 0x80, 0xBF),
    (0xC2, 0xDF, 1, 0x80, 0xBF),
    (0xE0, 0xE0, 2, 0xA0, 0xBF),
    (0xE1, 0xEC, 2, 0x80, 0xBF),
    (0xED, 0xED, 2, 0x80, 0x9F),
    (0xEE, 0xEF, 2, 0x80, 0xBF),
    (0xF0, 0xF0, 3, 0x90, 0xBF),
    (0xF1, 0xF3, 3, 0x80, 0xBF),
    (0xF4, 0xF4, 3, 0x80, 0x8F),
)


def shape_of(first):
    for shape in SHAPES:
        if shape[0] <= first <= shape[1]:
            return shape
    return None


def fits(shape, followers):
    """Whether these are the bytes that follow a first byte of that shape."""
    if len(followers) < shape[2]:
        return False
    if followers and not shape[3] <= followers[0] <= shape[4]:
        return False
    return all([0x80 <= follower <= 0xBF for follower in followers])


def is_utf8(octets):
    position = 0
    while position < len(octets):
        shape = shape_of(octets[position])
        if shape is None:
            return False
        behind = position + 1 + shape[2]
        if not fits(shape, octets[position + 1:behind]):
            return False
        position = behind
    return True
