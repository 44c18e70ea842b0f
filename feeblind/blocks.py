"""Reading the blocks of a chart's text, line by line."""

from feeblind.hours import LONGEST_DAY
from feeblind.names import MOST, is_name
from feeblind.roads import LONGEST_TICKS, Road, Rule, is_window
from feeblind.texts import written_number

ROAD_WORDS = ("price", "width", "ticks", "mark", "window", "never", "wheels", "doubtful")
RULE_WORDS = ("price", "ticks", "wheels")
# Lines of these words may come again.
MANY_WORDS = ("price", "window")


class Block:
    """The block of one road or rule, as far as it was read: its first line, and the fees behind it."""

    def __init__(self, parts, words, usual):
        self.parts = parts
        self.words = words
        # These ticks are not written.
        self.usual = usual
        self.stage = 0
        self.fees = {}


def takes_price(block, words):
    """Whether a block takes the line of a price, which it then keeps."""
    if len(words) != 3 or not is_name(words[1]):
        return False
    number = written_number(words[2], 1, MOST)
    prices = block.fees.setdefault("prices", {})
    if number is None or (prices and words[1] <= list(prices)[-1]):
        return False
    prices[words[1]] = number
    return True


def takes_number(block, words, least, most, usual):
    """Whether a block takes a line with a number other than the usual one, which it then keeps."""
    if len(words) != 2:
        return False
    number = written_number(words[1], least, most)
    if number is None or number == usual:
        return False
    block.fees[words[0]] = number
    return True


def takes_width(block, words):
    """Whether a block takes the line of a width, which it then keeps."""
    return takes_number(block, words, 1, MOST, 1)


def takes_ticks(block, words):
    """Whether a block takes the line of ticks, which it then keeps."""
    return takes_number(block, words, 0, LONGEST_TICKS, block.usual)


def takes_mark(block, words):
    """Whether a block takes the line of a mark, which it then keeps."""
    if len(words) != 2 or not is_name(words[1]):
        return False
    block.fees["mark"] = words[1]
    return True


def takes_window(block, words):
    """Whether a block takes the line of a window, which it then keeps."""
    window = tuple([written_number(word, 0, LONGEST_DAY) for word in words[1:]])
    windows = block.fees.setdefault("windows", [])
    if not is_window(window, windows[-1][1] + 1 if windows else 0):
        return False
    windows.append(window)
    return True


def takes_never(block, words):
    """Whether a block takes the line that stands for no windows."""
    if len(words) != 1 or "windows" in block.fees:
        return False
    block.fees["windows"] = []
    return True


def takes_wheels(block, words):
    """Whether a block takes the line of the wheels, which it then keeps."""
    wheels = words[1:]
    if not all([is_name(wheel) for wheel in wheels]) or wheels != sorted(set(wheels)):
        return False
    block.fees["wheels"] = wheels
    return True


def takes_doubtful(block, words):
    """Whether a block takes the line of a doubtful road."""
    if len(words) != 1:
        return False
    block.fees["doubtful"] = True
    return True


TAKERS = {
    "price": takes_price,
    "width": takes_width,
    "ticks": takes_ticks,
    "mark": takes_mark,
    "window": takes_window,
    "never": takes_never,
    "wheels": takes_wheels,
    "doubtful": takes_doubtful,
}


def takes_fee(block, words):
    """Whether a block takes a line behind its first one: a word that it may have, in order."""
    word = words[0]
    if word not in block.words:
        return False
    stage = ROAD_WORDS.index(word) + 1
    if stage < block.stage or (stage == block.stage and word not in MANY_WORDS):
        return False
    block.stage = stage
    taker = TAKERS[word]
    return taker(block, words)


class ChartReader:
    """Takes the lines of a chart's text one by one; whole once the last one was taken."""

    def __init__(self, most_roads, most_turns):
        self.most_roads = most_roads
        self.most_turns = most_turns
        self.whole = False
        self.road_blocks = []
        self.rule_blocks = []
        # The tail and the head of each road, and the number of turns between them.
        self.known = {}
        self.many = 0

    def takes(self, words):
        """Whether a text may go on with a line of these words, behind the lines that were taken."""
        if self.whole:
            return False
        if words[0] not in ("road", "turn", "end"):
            return self.takes_inner(words)
        # A rule that says nothing is not kept, so its block says something.
        if self.rule_blocks and not self.rule_blocks[-1].fees:
            return False
        if words[0] == "road":
            return self.takes_road(words)
        if words[0] == "turn":
            return self.takes_turn(words)
        self.whole = len(words) == 1
        return self.whole

    def takes_inner(self, words):
        """Whether the present block takes a line."""
        if self.rule_blocks:
            return takes_fee(self.rule_blocks[-1], words)
        return len(self.road_blocks) > 0 and takes_fee(self.road_blocks[-1], words)

    def takes_road(self, words):
        """Whether a block of a road may begin."""
        if self.rule_blocks or len(words) != 4 or not all([is_name(word) for word in words[1:]]):
            return False
        if self.road_blocks and words[1] <= self.road_blocks[-1].parts[0]:
            return False
        _, name, tail, head = words
        behind = [ends for ends in list(self.known.values()) if ends[0] == head]
        ahead = [ends for ends in list(self.known.values()) if ends[1] == tail]
        self.many = self.many + len(behind) + len(ahead)
        self.known[name] = (tail, head)
        self.road_blocks.append(Block(words[1:], ROAD_WORDS, 1))
        return len(self.known) <= self.most_roads and self.many <= self.most_turns

    def takes_turn(self, words):
        """Whether a block of a rule may begin."""
        if len(words) != 3 or words[1] == words[2]:
            return False
        if words[1] not in self.known or words[2] not in self.known:
            return False
        if self.known[words[1]][1] != self.known[words[2]][0]:
            return False
        if self.rule_blocks and words[1:] <= self.rule_blocks[-1].parts:
            return False
        self.rule_blocks.append(Block(words[1:], RULE_WORDS, 0))
        return True

    def roads_read(self):
        """The list of the roads that were read."""
        return [made_road(block.parts, block.fees) for block in self.road_blocks]

    def rules_read(self):
        """The list of the rules that were read."""
        return [made_rule(block.parts, block.fees) for block in self.rule_blocks]


def made_road(parts, fees):
    """The road of a block."""
    name, tail, head = parts
    return Road(name, tail, head, **fees)


def made_rule(parts, fees):
    """The rule of a block."""
    source, target = parts
    return Rule(source, target, **fees)
