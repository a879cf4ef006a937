"""What is met from something, step by step."""


def spread(begun, behind):
    """All that is begun with or met behind such, as the keys of a dict. behind is a dict of lists."""
    met = {thing: True for thing in begun}
    waiting = list(met)
    while waiting:
        for thing in behind.get(waiting.pop(), []):
            if thing not in met:
                met[thing] = True
                waiting.append(thing)
    return met


def met_in_order(behind):
    """The list of the numbers met from 0, in the order in which they are first met. behind is a function."""
    met = {0: True}
    order = [0]
    at = 0
    while at < len(order):
        for number in behind(order[at]):
            if number not in met:
                met[number] = True
                order.append(number)
        at += 1
    return order


def met_by_letters(start, step, many, most=None):
    """The list of the keys met from a start by so many letters, and for each key the numbers of those behind it.

    step(key, k) is the key behind the k-th letter. None if there are more keys than most.
    """
    numbers = {start: 0}
    keys = [start]
    goals = []
    while len(goals) < len(keys):
        if most is not None and len(keys) > most:
            return None
        key = keys[len(goals)]
        behind = [step(key, k) for k in range(many)]
        for goal in behind:
            if goal not in numbers:
                numbers[goal] = len(keys)
                keys.append(goal)
        goals.append(tuple([numbers[goal] for goal in behind]))
    return keys, goals
