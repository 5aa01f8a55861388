"""What is reached step by step."""


def reached_from(start, steps_from):
    """All squares that are reached from one, itself among them, as a dict of True.

    steps_from tells of a square those that are reached from it straight away.
    """
    reached = {start: True}
    waiting = [start]
    while len(waiting) > 0:
        square = waiting.pop()
        for other in steps_from(square):
            if other not in reached:
                reached[other] = True
                waiting.append(other)
    return reached
