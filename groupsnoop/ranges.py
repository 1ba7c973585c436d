"""The ranges of the values."""

# Written out, so that they are plain numbers: 2^28 - 1, 2^32 - 1 and 2^62.
LAST_GROUP = 268435455
LAST_SOURCE = 4294967295
LAST_TIME = 4611686018427387904

LAST_LOCAL_GROUP = 255
LAST_HOST = 65535
MOST_HOSTS = 256
MOST_GROUPS_OF_HOST = 64
MOST_LISTED = 64
MOST_PORTS = 64
MOST_SECONDS = 1000000
MOST_MESSAGES = 1024
MOST_ENTRIES = 4096


def is_group(number):
    return 0 <= number <= LAST_GROUP


def is_local(group):
    return group <= LAST_LOCAL_GROUP


# Also asked of an asker's number: it has the range of a source.
def is_source(number):
    return 0 <= number <= LAST_SOURCE


def is_host(number):
    return 0 <= number <= LAST_HOST


def is_row(numbers):
    if len(numbers) > MOST_LISTED:
        return False
    before = -1
    for number in numbers:
        if number <= before or not is_source(number):
            return False
        before = number
    return True
