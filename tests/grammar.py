"""The document's grammar read a second way, by patterns, for tests to compare with."""
import re

PART = re.compile(r"[\x00-\x20]+|#[^\n]*|[A-Za-z][A-Za-z0-9_]*|[0-9]+|[{}:;,/-]")
NAME = r"[A-Za-z][A-Za-z0-9_]{0,15} "
NUMBER = r"(?:[0-9]{1,6}|0[0-9]{6}|1000000) "
WAY = "(" + NAME + ")(?:/ (" + NUMBER + "))?"
CHOICE = "(" + NAME + ")((?:- )?" + NUMBER + "): (" + WAY + "(?:, " + WAY + ")*); "
STATE = "state (" + NAME + r"){ ((?:" + CHOICE + r")*)} "


def parts(words):
    """The parts of a text, or None where a byte belongs to none."""
    found = []
    place = 0
    while place < len(words):
        match = PART.match(words, place)
        if match is None:
            return None
        if match.group()[0] > " " and match.group()[0] != "#":
            found.append(match.group())
        place = match.end()
    return found


def different(names):
    return len(set(names)) == len(names)


def choice_holds(gain, ways, state_names):
    found = re.findall(WAY, ways)
    names = [name for name, weight in found]
    weights = [int(weight or "1") for name, weight in found]
    if not different(names) or not set(names) <= set(state_names):
        return False
    return abs(int(gain.replace(" ", ""))) <= 1000 and all(1 <= weight <= 1000 for weight in weights)


def state_holds(inner, state_names):
    found = [match.group(1, 2, 3) for match in re.finditer(CHOICE, inner)]
    if len(found) > 8 or not different([name for name, gain, ways in found]):
        return False
    return all(choice_holds(gain, ways, state_names) for name, gain, ways in found)


def expected(words):
    """What check should answer for a text of these bytes."""
    if len(words) > 65536:
        return [-1]
    found = parts(words)
    if found is None:
        return [-2]
    whole = "".join(part + " " for part in found)
    if not re.fullmatch("(?:" + STATE + ")+", whole):
        return [-2]
    states = [match.group(1, 2) for match in re.finditer(STATE, whole)]
    names = [name for name, inner in states]
    if len(states) > 16 or not different(names):
        return [-2]
    if not all(state_holds(inner, names) for name, inner in states):
        return [-2]
    return [len(states)]
