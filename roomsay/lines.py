"""Rows of plain statements, the rows above them, and the lines that show a row."""

# How many lines a reason tells behind its place: one for each row above.
LINES_TOLD = {"or": 1, "and": 2, "every": 1}


def has_pair(row):
    lamps = {}
    for statement in row:
        if statement[0] == "lamp":
            lamps[statement[1]] = True
    for statement in row:
        if statement[0] == "dark" and statement[1] in lamps:
            return True
    return False


# A row may also tell its statements by numbers: `parts` has, for each place of the row,
# the sort of the statement there and what lies within it, told in the same way as the row.
def rows_above_by_parts(row, parts, k):
    part = parts[k]
    if part[0] == "every":
        return [[part[1]] + [other[1] for other in parts if other[0] == "some"]]
    before = row[:k]
    behind = row[k + 1:]
    if part[0] == "or":
        return [before + [part[1], part[2]] + behind]
    return [before + [part[1]] + behind, before + [part[2]] + behind]


def rows_above(row, k):
    return rows_above_by_parts(row, row, k)


def reason_fits(row, reason):
    kind = reason[0]
    if kind not in LINES_TOLD or len(reason) != 2 + LINES_TOLD[kind]:
        return False
    k = reason[1]
    # A place below nought would be counted from the end of the row.
    return 0 <= k < len(row) and row[k][0] == kind


def is_right(lines, place):
    row = lines[place][0]
    reason = lines[place][1]
    if reason == ("pair",):
        return has_pair(row)
    if not reason_fits(row, reason):
        return False
    for told, above in zip(reason[2:], rows_above(row, reason[1])):
        # A number below nought would be counted from the end of the lines.
        if not (0 <= told < place and lines[told][0] == above):
            return False
    return True


def shows(lines, row):
    for place in range(len(lines)):
        if not is_right(lines, place):
            return False
    return len(lines) > 0 and lines[-1][0] == row
