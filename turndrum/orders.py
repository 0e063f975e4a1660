"""An order as a word: its parts, its writing, and what stops the machine at it."""

from turndrum.machine import is_address

HALT = 0
NO_OPERATION = 1
READ_CARD = 70
PUNCH_CARD = 71

NAMES = {
    0: "HLT", 1: "NOP",
    10: "LDA", 11: "LDN", 12: "ADD", 13: "SUB", 14: "ADM", 15: "SBM", 16: "ADU", 17: "SBU", 18: "LDD",
    20: "MUL", 21: "DIV",
    30: "STL", 31: "STU", 32: "STD",
    40: "SHL", 41: "SHR", 42: "SRR", 43: "SCT",
    50: "BMI", 51: "BNZ", 52: "BOV",
    60: "TLU",
    70: "RDC", 71: "PCH",
}

LARGEST_SHIFT = 20

GOES_ON = 0
STOPPED_BY_ORDER = 1
BELOW_ZERO = 2
NO_SUCH_CODE = 3
NO_ADDRESS = 4
NO_SHIFT = 5
NO_CARD = 6


def code_of(word):
    return word // 100000000


def data_of(word):
    return word // 10000 % 10000


def next_of(word):
    return word % 10000


def is_order(word):
    return word >= 0 and code_of(word) in NAMES


def writing(word):
    name = NAMES[code_of(word)]
    data = str(data_of(word)).zfill(4)
    following = str(next_of(word)).zfill(4)
    return f"{name} {data} {following}"


def loads_d(code):
    return 10 <= code <= 21


def waits(code):
    return 10 <= code <= 32 or code == 60


def shifts_by_data(code):
    return 40 <= code <= 42


def has_data_address(code):
    return code != NO_OPERATION and not 40 <= code <= 43


def stopping_state(word, is_card_left):
    """The state in which this word stops the machine, or that it goes on."""
    if word < 0:
        return BELOW_ZERO
    code = code_of(word)
    if code not in NAMES:
        return NO_SUCH_CODE
    if code == HALT:
        return STOPPED_BY_ORDER
    if not is_address(next_of(word)):
        return NO_ADDRESS
    if has_data_address(code) and not is_address(data_of(word)):
        return NO_ADDRESS
    if shifts_by_data(code) and data_of(word) > LARGEST_SHIFT:
        return NO_SHIFT
    if code == READ_CARD and not is_card_left:
        return NO_CARD
    return GOES_ON
