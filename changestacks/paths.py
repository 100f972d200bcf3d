"""Paths, as tuples of bytes: which tuples are one, and which folders lie above one."""

SLASH = 47
SIGNS = (95, 46, 45)
LONGEST_NAME = 12
LONGEST_PATH = 40
MOST_NAMES = 4


def is_name_byte(byte):
    return 97 <= byte <= 122 or 48 <= byte <= 57 or byte in SIGNS


def is_name(name):
    return 1 <= len(name) <= LONGEST_NAME and all([is_name_byte(byte) for byte in name])


def names_of(path):
    names = []
    begin = 0
    for place, byte in enumerate(path):
        if byte == SLASH:
            names.append(path[begin:place])
            begin = place + 1
    names.append(path[begin:])
    return names


def is_path(path):
    if len(path) > LONGEST_PATH:
        return False
    names = names_of(path)
    return len(names) <= MOST_NAMES and all([is_name(name) for name in names])


def folders_of(path):
    return [path[:place] for place, byte in enumerate(path) if byte == SLASH]


def do_clash(path, other):
    return path in folders_of(other) or other in folders_of(path)
