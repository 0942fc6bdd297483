"""Reaches: who takes how much, what passes each row, and which places are dry."""

# Where the parts of a row stand in its tuple.
ROW_DOWN = 0
ROW_WATER = 1
ROW_NEED = 2
ROW_RANK = 3


def shares(rows):
    """Tell what each row takes."""
    takes = [0] * len(rows)
    passing = passed(rows, takes)
    for number in served(rows):
        way = way_down(rows, number)
        # What a row takes is missing at every row on its way down, and nowhere else.
        take = min(rows[number][ROW_NEED], min([passing[below] for below in way]))
        takes[number] = take
        for below in way:
            passing[below] -= take
    return takes


def passed(rows, takes):
    """Tell what passes each row, where each takes so much."""
    passing = [row[ROW_WATER] - take for row, take in zip(rows, takes)]
    for number, row in enumerate(rows):
        if row[ROW_DOWN] is not None:
            passing[row[ROW_DOWN]] += passing[number]
    return passing


def dry(rows):
    """Tell for each row the number of its dry place by the shares, None where it takes its need."""
    takes = shares(rows)
    passing = passed(rows, takes)
    return [dry_place(rows, number, takes, passing) for number in range(len(rows))]


def dry_place(rows, number, takes, passing):
    """Tell the number of a row's dry place, None where it takes its need."""
    if takes[number] == rows[number][ROW_NEED]:
        return None
    # Those behind the row need not be looked at: the place that bounded its share let nothing by from then on,
    # so none of them takes anything at or above it, nor above a place that comes ahead of it on the way.
    return [below for below in way_down(rows, number) if passing[below] == 0][0]


def served(rows):
    """Tell the numbers of the rows in the order in which they are served."""
    order = sorted([(row[ROW_RANK], number) for number, row in enumerate(rows)])
    return [number for rank, number in order]


def way_down(rows, number):
    """Tell the numbers of the rows on the way down from a row, beginning with itself."""
    way = [number]
    down = rows[number][ROW_DOWN]
    while down is not None:
        way.append(down)
        down = rows[down][ROW_DOWN]
    return way
