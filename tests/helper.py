"""What the tests share: writing calls as a line, and reading the answers call by call."""

from hourstheyhave.rescue import answers

NUMBERS = {
    "start": 0, "person": 1, "water": 2, "raft": 3, "clothe": 4, "minutes": 5, "take": 6,
    "all": 7, "left": 8, "most": 9, "plan": 10, "can": 11, "spare": 12, "first": 13, "without": 14, "among": 15,
    "saves": 16, "next": 17, "look": 18, "who": 19, "row": 20, "sums": 21, "back": 22, "again": 23, "state": 24,
}
GREATEST = 4294967295
# Every cell differs: (place + 1) * 100 + clothes * 10.
TABLE = [(place + 1) * 100 + clothes * 10 for place in range(6) for clothes in range(4)]
START = ("start", 2, TABLE)
# From minute 0 to minute 100,000.
TO_THE_END = [("minutes", 1440)] * 69 + [("minutes", 640)]


def line(calls):
    numbers = []
    for call in calls:
        numbers.append(NUMBERS[call[0]])
        for given in call[1:]:
            if isinstance(given, list):
                numbers.append(len(given))
                numbers.extend(given)
            else:
                numbers.append(given)
    return numbers


def split(told):
    """The answers of a line, each a list."""
    each = []
    at = 0
    while at < len(told):
        each.append(told[at + 1:at + 1 + told[at]])
        at += 1 + told[at]
    return each


def run(*calls):
    if len(calls) > 1000:
        raise AssertionError("a line holds at most 1000 calls, not %d" % len(calls))
    each = split(answers(line(calls)))
    if len(each) != len(calls):
        raise AssertionError("%d calls, %d answers" % (len(calls), len(each)))
    return each


def last(*calls):
    return run(*calls)[-1]


def crew(pairs):
    """Calls that start and tell of persons with (left, takes) each; at most 8 different lefts."""
    lefts = sorted({left for left, takes in pairs})
    table = [1] * 24
    cells = {}
    for index, left in enumerate(lefts):
        raft, clothes = divmod(index, 4)
        cells[left] = (clothes, raft)
        table[(20 if raft else 0) + clothes] = left
    return [("start", 0, table)] + [("person",) + cells[left] + (takes,) for left, takes in pairs]


def look_round(persons):
    """Calls whose answers show all that a change can change, and how many can be taken back and done again."""
    return [("state",)] + [("look", p) for p in range(persons + 1)]


def questions(persons):
    """Every call that changes nothing, of each person and of one who isn't there."""
    calls = look_round(persons) + [("who",), ("sums",), ("next",), ("first",), ("spare",)]
    for p in range(persons + 1):
        calls += [("left", p), ("without", p), ("among", p), ("saves", p, 0), ("saves", p, 3), ("saves", p, 4)]
    for t in (0, 1, 5, 50, 90):
        calls += [("most", t), ("plan", t)]
    calls += [("can", 1 << p, 0) for p in range(persons)]
    return calls + [("row", place) for place in range(7)]


def there_and_back(persons):
    """Every change that can be taken back taken back, then every one done again, with a look round at each."""
    calls = []
    for name in ("back", "again"):
        for unused in range(21):
            calls += [(name,)] + look_round(persons)
    return calls


def probe(persons):
    """Calls whose answers show all of the state that can be seen: questions first, then changes."""
    calls = questions(persons) + there_and_back(persons)
    calls += [("water", w) for w in range(5)]
    calls += [call for p in range(persons) for call in (("raft", p, 0), ("raft", p, 1))]
    calls += [("clothe", p, c) for p in range(persons) for c in range(4)]
    calls += [("person", 1, 0, 7), ("minutes", 3), ("take", 0), ("all",), ("minutes", 1)]
    return calls
