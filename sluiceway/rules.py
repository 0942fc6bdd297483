"""Rules of opening: which stairs hold, and what they open."""


def stairs_at(rule, turn):
    """Tell the stairs that hold at a turn of the year."""
    held = ()
    for first, stairs in rule:
        if first <= turn:
            held = stairs
    return held


def opened(stairs, water):
    """Tell how many cubes of the water go by the river, go by the pump, and stay."""
    river = 0
    pump = 0
    for height, many, way in stairs:
        cubes = max(0, min(many, water - height))
        if way == "river":
            river += cubes
        else:
            pump += cubes
    return (river, pump, water - river - pump)
