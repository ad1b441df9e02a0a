"""A second, plain telling of how runs go, to compare the package with.

It shares no code with the package, and takes the document's words one by one.
"""


class Machine:
    """One run (or rest) that is led by choices; it changes with each of them."""

    def __init__(self, program, frames=None):
        self.functions = {name: lines for name, lines in program}
        self.stack = [list(spot) for spot in (frames or ((program[0][0], 0),))]
        self.behind = False
        self.end = ()
        self.arrivals = [(len(self.stack) - 1, tuple(self.stack[-1]))]

    def line(self):
        name, index = self.stack[-1]
        return self.functions[name][index]

    def options(self):
        if not self.stack:
            return 0
        return len(self.line()[1 if self.behind else 0])

    def arrive(self, index):
        self.stack[-1][1] = index
        self.behind = False
        self.note()

    def note(self):
        self.arrivals.append((len(self.stack) - 1, tuple(self.stack[-1])))

    def choose(self, choice):
        if self.behind:
            self.take_way(self.line()[1][choice])
            return
        call = self.line()[0][choice]
        if call == '':
            self.behind = True
        else:
            self.stack.append([call, 0])
            self.note()

    def take_way(self, way):
        if isinstance(way, int):
            self.arrive(way)
        elif way == ('back',):
            self.leave(way)
            self.behind = True
        else:
            self.fail(way)

    def fail(self, end):
        while self.stack:
            for kind, index in self.line()[2]:
                if kind in ('', end[1]):
                    self.arrive(index)
                    return
            self.leave(end)

    def leave(self, end):
        self.stack.pop()
        if not self.stack:
            self.end = end

    def frames(self):
        return tuple([tuple(spot) for spot in self.stack])


def machine_behind(program, choices, frames=None):
    """The machine behind these choices."""
    machine = Machine(program, frames)
    for choice in choices:
        machine.choose(choice)
    return machine


def all_runs(program, count, frames=None):
    """All runs, or rests, with exactly so many choices, found by trying all."""
    found = [()]
    for _ in range(count):
        longer = []
        for run in found:
            for choice in range(machine_behind(program, run, frames).options()):
                longer.append(run + (choice,))
        found = longer
    return found


def written(packed):
    """The choices of a packed rest, lives written out one inside the other."""
    _, lives, items = packed
    choices = []
    for item in items:
        if isinstance(item, tuple):
            choices.extend(written((None, lives, lives[item[1]][1])))
        else:
            choices.append(item)
    return tuple(choices)
