"""A house's text, written as bytes."""

from roofplans.ground import eastward, northward
from roofplans.reading import BLANK, COMMA, DIGIT_0, LINE_FEED
from roofplans.walks import walk_rows


# No number of a text has more than two digits, 64 being the greatest.
def number_bytes(number):
    if number < 10:
        return [DIGIT_0 + number]
    return [DIGIT_0 + number // 10, DIGIT_0 + number % 10]


def line_bytes(row):
    line = []
    for corner in row:
        if line:
            line.append(BLANK)
        line.extend(number_bytes(eastward(corner)))
        line.append(COMMA)
        line.extend(number_bytes(northward(corner)))
    line.append(LINE_FEED)
    return line


def house_bytes(house):
    written = []
    for row in walk_rows(house):
        written.extend(line_bytes(row))
    return written
