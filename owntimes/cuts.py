"""Tasks that are under way at a moment at which most are.

At a moment that lies far enough from the first works, each point of a station has
happened up to some number: its height. A step lets its target be higher than its
source by its lag at most. As many works of a station are under way as its beginning
is higher than its end. These are as many as the closed ways of the least lag have
lag in all if each step in them is used to the full; only a step from beginning to
end that one of them alone needs may leave a difference.
"""

from owntimes.ways import WORK, begin_of, end_of, step_at, steps_of


def tasks_between(line, names, ways):
    """As many tasks of these stations, ascending, as the closed ways of the least lag through them have lag in all."""
    heights = _heights(line, steps_of(line) + _steps_back(line, names, ways))
    tasks = []
    for name in names:
        ended, begun = heights[end_of(line, name)], heights[begin_of(line, name)]
        tasks.extend([(number, name) for number in range(ended + 1, begun + 1)])
    least = min([number for number, _ in tasks], default=1)
    return tuple([(name, number - least + 1) for number, name in sorted(tasks)])


def _steps_back(line, names, ways):
    """The steps that the closed ways use to the full, led back."""
    used = {}
    for way in ways:
        for step in way:
            used[step] = used.get(step, 0) + 1
    found = []
    for step, many in used.items():
        needed = isinstance(step, tuple) and step[0] == WORK and step[1] in names
        if many > 1 or not needed:
            lag, source, target = step_at(line, step)
            found.append((-lag, target, source))
    return found


def _heights(line, steps):
    """For each point a height that the steps allow."""
    many = 2 * len(line)
    heights = [0] * many
    # No way that lowers a height further comes to a point twice, as no closed way has a lag below 0.
    for _ in range(many):
        for lag, source, target in steps:
            heights[target] = min(heights[target], heights[source] + lag)
    return heights
