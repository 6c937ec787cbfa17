"""Which rows of bytes are keys, and which may be asked for as beginnings."""

LONGEST_KEY = 24


def is_key(row):
    return len(row) > 0 and is_beginning(row)


# Unlike a key a beginning may be empty: every key begins so.
def is_beginning(row):
    return len(row) <= LONGEST_KEY and all([is_key_byte(byte) for byte in row])


# Hyphen, point and stroke (45 to 47) stand just ahead of the digits.
def is_key_byte(byte):
    return ord("-") <= byte <= ord("9") or ord("a") <= byte <= ord("z")
