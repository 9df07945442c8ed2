"""A text's bytes, read into lines of corners, and the first wrong byte."""

from roofplans.ground import place

LINE_FEED = 10
BLANK = 32
COMMA = 44
DIGIT_0 = 48
DIGIT_9 = 57
GREATEST = 64
LEAST_CORNERS = 4


# What has been read of a text. Each take method answers whether a text of
# right shape may go on with that byte, and changes nothing where it may not.
class Reader:
    def __init__(self):
        self.lines = []
        self.corners = []
        self.x = None
        self.number = None
        self.wrong = None

    def take(self, byte):
        if DIGIT_0 <= byte <= DIGIT_9:
            return self.take_digit(byte - DIGIT_0)
        if self.number is None:
            return False
        if byte == COMMA:
            return self.take_comma()
        if byte == BLANK:
            return self.take_blank()
        if byte == LINE_FEED:
            return self.take_line_feed()
        return False

    def take_digit(self, digit):
        number = digit
        if self.number is not None:
            number = self.number * 10 + digit
        if self.number == 0 or number > GREATEST:
            return False
        self.number = number
        return True

    def take_comma(self):
        if self.x is not None:
            return False
        self.x = self.number
        self.number = None
        return True

    def take_blank(self):
        if self.x is None:
            return False
        self.end_corner()
        return True

    def take_line_feed(self):
        if self.x is None or len(self.corners) + 1 < LEAST_CORNERS:
            return False
        self.end_corner()
        self.lines.append(self.corners)
        self.corners = []
        return True

    def end_corner(self):
        self.corners.append(place(self.x, self.number))
        self.x = None
        self.number = None


def read_text(t):
    reader = Reader()
    for at, byte in enumerate(t):
        if not reader.take(byte):
            reader.wrong = at
            return reader
    # A line feed is only taken where a line may end, so it alone ends a text.
    if len(t) == 0 or t[-1] != LINE_FEED:
        reader.wrong = len(t)
    return reader
