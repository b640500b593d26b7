"""Whether a straight line halves points."""


def does_halve(line, points):
    """Whether no more than half lie on either side; those on the line are on neither."""
    above = 0
    below = 0
    for point in points:
        side = line[0] * point[0] + line[1] * point[1] - line[2]
        if side > 0:
            above += 1
        elif side < 0:
            below += 1
    return 2 * max(above, below) <= len(points)
