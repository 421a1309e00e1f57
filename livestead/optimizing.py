"""The optimizer: replaces instructions by fewer ones that do the same."""

from livestead.values import change_sign, operate, turn_round

LEADING = ("jump", "unless", "try", "keep")
# Behind these the next instruction does not follow.
FINAL = ("jump", "end", "give", "fail")
# What puts a value on the stack and does nothing else, whatever stands there.
SILENT = ("push", "self", "local")


def optimize(code):
    """The code in which none of the optimizer's six rules fits any more.

    Rules 1 to 3 and rule 4 are carried out everywhere at once, which comes to the same as one place
    after the other. Rules 5 and 6 are not: what they remove may let rule 2 or rule 3 fit, and then
    it matters which of these two comes first.
    """
    _, places, instructions, blocks = code
    rows = _folded(_settled(list(instructions)))
    fewer = _shortened(rows)
    while len(fewer) < len(rows):
        rows = _folded(_settled(fewer))
        fewer = _shortened(rows)
    return ("code", places, tuple(rows), tuple([optimize(block) for block in blocks]))


def _settled(rows):
    """Carries out rules 1 to 3 until none of them fits."""
    # A jump that can be reached leads along reachable jumps: it may be straightened ahead of rule 1.
    straight = [_straight(row, rows) for row in rows]
    reachable = _chosen(straight, _reached(straight))
    return _chosen(reachable, _needed(reachable))


def _chosen(rows, stays):
    """The rows that stay; what led to another row leads to the next one that stays."""
    numbers = []
    many = 0
    for flag in stays:
        numbers.append(many)
        if flag:
            many += 1
    return [_moved(row, numbers) for row, flag in zip(rows, stays) if flag]


def _moved(row, numbers):
    if row[0] in LEADING:
        return (row[0], numbers[row[1]])
    return row


def _straight(row, rows):
    """Rule 2 for one row: it leads past all jumps, unless these lead in a circle."""
    if row[0] != "jump" and row[0] != "unless":
        return row
    passed = set()
    at = row[1]
    while rows[at][0] == "jump":
        if at in passed:
            return row
        passed.add(at)
        at = rows[at][1]
    return (row[0], at)


def _reached(rows):
    """Which rows can be reached from the first one (rule 1)."""
    reached = [False] * len(rows)
    waiting = [0]
    while waiting:
        at = waiting.pop()
        if not reached[at]:
            reached[at] = True
            if rows[at][0] in LEADING:
                waiting.append(rows[at][1])
            if rows[at][0] not in FINAL:
                waiting.append(at + 1)
    return reached


def _needed(rows):
    """Which rows are no jumps to the row behind them (rule 3), once such jumps are gone."""
    stays = [True] * len(rows)
    # For each row the first one from it on that stays.
    first = list(range(len(rows) + 1))
    for at in reversed(range(len(rows))):
        word = rows[at][0]
        if word == "jump" and rows[at][1] > at and first[rows[at][1]] == first[at + 1]:
            stays[at] = False
            first[at] = first[at + 1]
    return stays


def _targets(rows):
    """Which rows another row leads to."""
    found = [False] * len(rows)
    for row in rows:
        if row[0] in LEADING:
            found[row[1]] = True
    return found


def _folded(rows):
    """Carries out rule 4 until it does not fit."""
    rows = list(rows)
    targets = _targets(rows)
    stays = [True] * len(rows)
    # The pushes that stand one behind the other right ahead of a row, none a target but the first.
    ready = []
    for at in range(len(rows)):
        if rows[at][0] == "push":
            ready = [at] if targets[at] else ready + [at]
            continue
        parts = [] if targets[at] else _operands(rows[at][0], ready)
        result = _result(rows[at], [rows[number][1] for number in parts])
        if result[0] == "value":
            rows[parts[0]] = ("push", result[1])
            for number in parts[1:] + [at]:
                stays[number] = False
            ready = ready[:len(ready) - len(parts) + 1]
        else:
            ready = []
    return _chosen(rows, stays)


def _operands(word, ready):
    """The pushes that an instruction works on, if there are enough of them; otherwise none."""
    if word == "op" and len(ready) > 1:
        return ready[-2:]
    if word == "neg" or word == "not":
        return ready[-1:]
    return []


def _result(row, operands):
    """What an instruction makes of its operands, told as operate does."""
    if not operands:
        return ("nothing",)
    if row[0] == "neg":
        return change_sign(operands[0])
    if row[0] == "not":
        return turn_round(operands[0])
    return operate(row[1], operands[0], operands[1])


def _shortened(rows):
    """Carries out rule 5 once; if it fits nowhere, rule 6 as often as no other rule can fit."""
    targets = _targets(rows)
    for at in range(len(rows) - 1):
        row, behind = rows[at], rows[at + 1]
        if row[0] == "push" and behind[0] == "unless" and not targets[at + 1]:
            if row[1] is True:
                return _without(rows, (at, at + 1))
            if row[1] is False:
                return _without(rows[:at] + [("jump", behind[1])] + rows[at + 1:], (at + 1,))
    return _without(rows, _thrown_away(rows, targets))


def _without(rows, numbers):
    stays = [True] * len(rows)
    for number in numbers:
        stays[number] = False
    return _chosen(rows, stays)


def _thrown_away(rows, targets):
    """The numbers of rows that put a value on the stack and take it away again (rule 6).

    It stops where another rule may fit once these rows are removed: what led to a removed row leads
    to another one then, and a push meets a row that it did not stand ahead of.
    """
    numbers = []
    staying = []
    for at, row in enumerate(rows):
        if row[0] == "pop" and not targets[at] and staying and rows[staying[-1]][0] in SILENT:
            first = staying.pop()
            numbers.extend([first, at])
            if targets[first] or (staying and rows[staying[-1]][0] == "push"):
                return numbers
        else:
            staying.append(at)
    return numbers
