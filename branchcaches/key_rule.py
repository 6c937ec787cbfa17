"""Which rows of bytes are keys."""

LONGEST_KEY = 24


def is_key(row):
    return 1 <= len(row) <= LONGEST_KEY and has_key_bytes(row)


def has_key_bytes(row):
    return all([is_key_byte(byte) for byte in row])


# Hyphen, point and stroke (45 to 47) stand just ahead of the digits.
def is_key_byte(byte):
    return ord("-") <= byte <= ord("9") or ord("a") <= byte <= ord("z")
