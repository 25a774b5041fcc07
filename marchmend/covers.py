"""The fewest rows and lines that cover broken cells, and cells by which no fewer do."""


def lines_by_row(broken):
    found = {}
    for row, line in broken:
        found.setdefault(row, []).append(line)
    return found


def finds_line(by_row, partners, tried, row):
    # Pairs the row with a line, if need be by finding other lines for rows that have one already.
    for line in by_row[row]:
        if line not in tried:
            tried[line] = True
            if line not in partners or finds_line(by_row, partners, tried, partners[line]):
                partners[line] = row
                return True
    return False


def fewest(broken):
    by_row = lines_by_row(broken)
    partners = {}
    alone = []
    for row in by_row:
        if not finds_line(by_row, partners, {}, row):
            alone.append(row)
    # None of these finds a line any more. Every line that they search by has a partner, and covers; of each
    # other pair the row does: so just as many cover as there are pairs.
    tried = {}
    for row in alone:
        finds_line(by_row, partners, tried, row)
    rows = [row for line, row in partners.items() if line not in tried]
    cells = [(row, line) for line, row in partners.items()]
    return (sorted(rows), sorted(tried), sorted(cells))
