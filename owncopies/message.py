"""A change as it stands in a message: 16 bytes, numbers with the lowest byte first."""

from owncopies.state import BEGINNING, LAST_CHARACTER, LAST_NUMBER, NUMBERS_APART, PEOPLE, PUTS, TAKES_OUT, Change

CHANGE_SIZE = 16

WHO = 0
KIND = 1
N = 2
STAMP = 4
TARGET_WHO = 6
TARGET_N = 8
CHARACTER = 12
EMPTY_PLACES = (7, 10, 11)

WHO_AT_BEGINNING = 255


def bytes_of(change):
    target_who = WHO_AT_BEGINNING if change.target == BEGINNING else change.target // NUMBERS_APART
    target_n = change.target % NUMBERS_APART
    row = [change.who, change.kind] + low_first(change.n, 2) + low_first(change.stamp, 2)
    row = row + [target_who, 0] + low_first(target_n, 2) + [0, 0]
    return row + low_first(change.character, 4)


# The row has to be in the form.
def change_from(row):
    target = BEGINNING
    if row[TARGET_WHO] != WHO_AT_BEGINNING:
        target = NUMBERS_APART * row[TARGET_WHO] + number_at(row, TARGET_N, 2)
    n = number_at(row, N, 2)
    stamp = number_at(row, STAMP, 2)
    return Change(row[WHO], n, stamp, row[KIND], target, number_at(row, CHARACTER, 4))


def is_in_form(row):
    if row[WHO] >= PEOPLE or row[KIND] > TAKES_OUT:
        return False
    if not is_own_number(number_at(row, N, 2)) or number_at(row, STAMP, 2) == 0:
        return False
    if any([row[place] != 0 for place in EMPTY_PLACES]):
        return False
    return has_target_in_form(row) and has_character_in_form(row)


def has_target_in_form(row):
    who = row[TARGET_WHO]
    n = number_at(row, TARGET_N, 2)
    if row[KIND] == PUTS and who == WHO_AT_BEGINNING:
        return n == 0
    return who < PEOPLE and is_own_number(n)


def has_character_in_form(row):
    character = number_at(row, CHARACTER, 4)
    if row[KIND] == TAKES_OUT:
        return character == 0
    return character <= LAST_CHARACTER


def is_own_number(n):
    return 1 <= n and n <= LAST_NUMBER


def number_at(row, place, size):
    number = 0
    for byte in reversed(row[place:place + size]):
        number = 256 * number + byte
    return number


def low_first(number, size):
    row = []
    for place in range(size):
        row.append(number % 256)
        number = number // 256
    return row
