"""The lines: how far an edge lies off, t along it."""


def straight(t):
    return 0


def wavy(t):
    w = t % 24 - 12
    if t % 48 < 24:
        return 12 - w * w // 12
    return w * w // 12 - 12


def embattled(t):
    if t % 48 < 24:
        return 12
    return -12


def indented(t):
    u = t % 48
    if u < 24:
        return u - 12
    return 36 - u


def engrailed(t):
    w = t % 24 - 12
    return w * w // 6 - 12


def invected(t):
    w = t % 24 - 12
    return 12 - w * w // 6


LINES = (straight, wavy, embattled, indented, engrailed, invected)


def offset(line, t):
    return LINES[line](t)
