"""The rules of point 19, word by word: always the first rule that fits, at the first place."""

from livestead.values import operate

LEADING = ("jump", "unless", "try", "keep")
FINAL = ("jump", "end", "give", "fail")


def one_by_one(code, notes=None):
    """The optimized code; what notes lists gets the number of each rule that was carried out."""
    _, places, instructions, blocks = code
    rows = list(instructions)
    going = True
    while going:
        going = False
        for number, rule in enumerate(RULES, 1):
            changed = rule(rows)
            if changed is not None:
                if notes is not None:
                    notes.append(number)
                rows = changed
                going = True
                break
    return ("code", places, tuple(rows), tuple(one_by_one(block, notes) for block in blocks))


def is_target(rows, at):
    return any(row[0] in LEADING and row[1] == at for row in rows)


def without(rows, *numbers):
    """Targets follow their instructions; else they lead to the next one that stays."""
    staying = [at for at in range(len(rows)) if at not in numbers]
    changed = []
    for at in staying:
        row = rows[at]
        if row[0] in LEADING:
            row = (row[0], len([number for number in staying if number < row[1]]))
        changed.append(row)
    return changed


def replaced(rows, at, row):
    return rows[:at] + [row] + rows[at + 1:]


def rule_1(rows):
    reached = {0}
    more = True
    while more:
        more = False
        for at in sorted(reached):
            ways = [] if rows[at][0] in FINAL else [at + 1]
            if rows[at][0] in LEADING:
                ways.append(rows[at][1])
            for way in ways:
                if way not in reached:
                    reached.add(way)
                    more = True
    for at in range(len(rows)):
        if at not in reached:
            return without(rows, at)
    return None


def rule_2(rows):
    for at, row in enumerate(rows):
        if row[0] in ("jump", "unless") and rows[row[1]][0] == "jump":
            passed = []
            to = row[1]
            while rows[to][0] == "jump" and to not in passed:
                passed.append(to)
                to = rows[to][1]
            if to not in passed:
                return replaced(rows, at, (row[0], to))
    return None


def rule_3(rows):
    for at, row in enumerate(rows):
        if row == ("jump", at + 1):
            return without(rows, at)
    return None


def result_of(rows):
    """What some rows put on the stack, if they are pushes and an operation upon them."""
    words = [row[0] for row in rows]
    if words == ["push", "neg"]:
        return operate("-", 0, rows[0][1])
    if words == ["push", "not"] and isinstance(rows[0][1], bool):
        return ("value", not rows[0][1])
    if words == ["push", "push", "op"]:
        return operate(rows[2][1], rows[0][1], rows[1][1])
    return ("failure",)


def rule_4(rows):
    for at in range(len(rows)):
        for many in (2, 3):
            result = result_of(rows[at:at + many])
            inner = range(at + 1, at + many)
            if result[0] == "value" and not any(is_target(rows, number) for number in inner):
                return without(replaced(rows, at, ("push", result[1])), *inner)
    return None


def rule_5(rows):
    for at in range(len(rows) - 1):
        row, behind = rows[at], rows[at + 1]
        if row[0] == "push" and behind[0] == "unless" and not is_target(rows, at + 1):
            if row[1] is True:
                return without(rows, at, at + 1)
            if row[1] is False:
                return without(replaced(rows, at, ("jump", behind[1])), at + 1)
    return None


def rule_6(rows):
    for at in range(len(rows) - 1):
        if rows[at][0] in ("push", "self", "local") and rows[at + 1] == ("pop",):
            if not is_target(rows, at + 1):
                return without(rows, at, at + 1)
    return None


RULES = (rule_1, rule_2, rule_3, rule_4, rule_5, rule_6)
