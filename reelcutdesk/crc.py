"""The check over a row of bytes."""

ALL_ONES = 0xFFFFFFFF
POLYNOMIAL = 0x82F63B78


def crc_of(data):
    rest = ALL_ONES
    for byte in data:
        rest = rest ^ byte
        for step in range(8):
            if rest & 1 == 1:
                rest = (rest >> 1) ^ POLYNOMIAL
            else:
                rest = rest >> 1
    return rest ^ ALL_ONES
