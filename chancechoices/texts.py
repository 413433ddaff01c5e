"""Reads a text, a list of bytes, into its states."""

LONGEST_NAME = 16
MOST_DIGITS = 7
GREATEST_NUMBER = 1000000
GREATEST_GAIN = 1000
GREATEST_WEIGHT = 1000
MOST_STATES = 16
MOST_CHOICES = 8

LINE_END = 10
BLANK = 32
HASH = 35
COMMA = 44
MINUS = 45
SLASH = 47
ZERO = 48
COLON = 58
SEMICOLON = 59
UNDERSCORE = 95
LEFT_BRACE = 123
RIGHT_BRACE = 125
# Above every byte, so that it is neither a blank nor part of anything.
TEXT_END = 256

# The bytes of "state". It is no reserved word: states and choices may bear it as their name.
STATE_WORD = (115, 116, 97, 116, 101)


class NoSuchText(Exception):
    pass


def demand(holds):
    if not holds:
        raise NoSuchText()


def is_digit(byte):
    return 48 <= byte <= 57


def is_letter(byte):
    return 65 <= byte <= 90 or 97 <= byte <= 122


def is_name_byte(byte):
    return is_letter(byte) or is_digit(byte) or byte == UNDERSCORE


def all_differ(names):
    return len(set(names)) == len(names)


# Goes through a text from part to part; blanks are skipped ahead of each part.
class Reader:
    def __init__(self, text):
        self.text = text
        self.place = 0

    def here(self):
        if self.place < len(self.text):
            return self.text[self.place]
        return TEXT_END

    def skip_remark(self):
        while self.here() != LINE_END and self.here() != TEXT_END:
            self.place += 1

    def skip_blanks(self):
        while self.here() <= BLANK or self.here() == HASH:
            if self.here() == HASH:
                self.skip_remark()
            else:
                self.place += 1

    def at_end(self):
        self.skip_blanks()
        return self.here() == TEXT_END

    def passes(self, mark):
        self.skip_blanks()
        if self.here() != mark:
            return False
        self.place += 1
        return True

    # A name goes as far as its bytes go: "a5" is one name, not a name and a number.
    def take_name(self):
        self.skip_blanks()
        demand(is_letter(self.here()))
        start = self.place
        while is_name_byte(self.here()):
            self.place += 1
        demand(self.place - start <= LONGEST_NAME)
        return tuple(self.text[start:self.place])

    def take_number(self):
        self.skip_blanks()
        start = self.place
        while is_digit(self.here()):
            self.place += 1
        # Asked ahead of the sum, so that no number of thousands of digits is worked out.
        demand(1 <= self.place - start <= MOST_DIGITS)
        number = 0
        for byte in self.text[start:self.place]:
            number = number * 10 + byte - ZERO
        demand(number <= GREATEST_NUMBER)
        return number


def read_gain(reader):
    below = reader.passes(MINUS)
    number = reader.take_number()
    demand(number <= GREATEST_GAIN)
    return -number if below else number


# A way is (the name of the state it leads to, weight).
def read_way(reader):
    name = reader.take_name()
    weight = 1
    if reader.passes(SLASH):
        weight = reader.take_number()
    demand(1 <= weight <= GREATEST_WEIGHT)
    return (name, weight)


# Each way is gone with the chance of its weight out of the total.
class Choice:
    def __init__(self, name, gain, ways, total):
        self.name = name
        self.gain = gain
        self.ways = ways
        self.total = total


def read_choice(reader):
    name = reader.take_name()
    gain = read_gain(reader)
    demand(reader.passes(COLON))
    ways = [read_way(reader)]
    while reader.passes(COMMA):
        ways.append(read_way(reader))
    demand(reader.passes(SEMICOLON))
    demand(all_differ([way[0] for way in ways]))
    return Choice(name, gain, ways, sum([way[1] for way in ways]))


class State:
    def __init__(self, name, choices):
        self.name = name
        self.choices = choices


def read_state(reader):
    demand(reader.take_name() == STATE_WORD)
    name = reader.take_name()
    demand(reader.passes(LEFT_BRACE))
    choices = []
    while not reader.passes(RIGHT_BRACE):
        choices.append(read_choice(reader))
    demand(len(choices) <= MOST_CHOICES)
    demand(all_differ([choice.name for choice in choices]))
    return State(name, choices)


# From here on a way is (the place of the state it leads to, weight).
def ways_to_places(ways, names):
    demand(all([way[0] in names for way in ways]))
    return [(names.index(way[0]), way[1]) for way in ways]


def read_states(text):
    reader = Reader(text)
    states = []
    while not reader.at_end():
        states.append(read_state(reader))
    demand(1 <= len(states) <= MOST_STATES)
    names = [state.name for state in states]
    demand(all_differ(names))
    # Only once all states are read: a way may lead to a state that is told later.
    for state in states:
        for choice in state.choices:
            choice.ways = ways_to_places(choice.ways, names)
    return states
