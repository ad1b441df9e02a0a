"""A second, plain telling of how runs go, to compare the package with.

It shares no code with the package, and takes the document's words one by one.
"""

import functools


class Machine:
    """One run (or rest) that is led by choices; it changes with each of them."""

    def __init__(self, program, frames=None):
        self.functions = {name: lines for name, lines in program}
        self.stack = [list(spot) for spot in (frames or ((program[0][0], 0),))]
        self.behind = False
        self.end = ()
        self.arrivals = [(len(self.stack) - 1, tuple(self.stack[-1]))]

    def line(self):
        name, index = self.stack[-1]
        return self.functions[name][index]

    def options(self):
        if not self.stack:
            return 0
        return len(self.line()[1 if self.behind else 0])

    def arrive(self, index):
        self.stack[-1][1] = index
        self.behind = False
        self.note()

    def note(self):
        self.arrivals.append((len(self.stack) - 1, tuple(self.stack[-1])))

    def choose(self, choice):
        if self.behind:
            self.take_way(self.line()[1][choice])
            return
        call = self.line()[0][choice]
        if call == '':
            self.behind = True
        else:
            self.stack.append([call, 0])
            self.note()

    def take_way(self, way):
        if isinstance(way, int):
            self.arrive(way)
        elif way == ('back',):
            self.leave(way)
            self.behind = True
        else:
            self.fail(way)

    def fail(self, end):
        while self.stack:
            for kind, index in self.line()[2]:
                if kind in ('', end[1]):
                    self.arrive(index)
                    return
            self.leave(end)

    def leave(self, end):
        self.stack.pop()
        if not self.stack:
            self.end = end

    def frames(self):
        return tuple([tuple(spot) for spot in self.stack])


def machine_behind(program, choices, frames=None):
    """The machine behind these choices."""
    machine = Machine(program, frames)
    for choice in choices:
        machine.choose(choice)
    return machine


def all_runs(program, count, frames=None):
    """All runs, or rests, with exactly so many choices, found by trying all."""
    found = [()]
    for _ in range(count):
        longer = []
        for run in found:
            for choice in range(machine_behind(program, run, frames).options()):
                longer.append(run + (choice,))
        found = longer
    return found


def written(packed):
    """The choices of a packed rest, lives written out one inside the other."""
    _, lives, items = packed
    choices = []
    for item in items:
        if isinstance(item, tuple):
            choices.extend(written((None, lives, lives[item[1]][1])))
        else:
            choices.append(item)
    return tuple(choices)


def counts_by_states(program, most):
    """How many runs there are with 0, 1, 2 and so on choices, kept by the states behind them."""
    counts = [1]
    states = {(((program[0][0], 0),), False): 1}
    for _ in range(most):
        following = {}
        for (frames, behind), many in states.items():
            for choice in range(machine_at(program, frames, behind).options()):
                machine = machine_at(program, frames, behind)
                machine.choose(choice)
                state = (machine.frames(), machine.behind)
                following[state] = following.get(state, 0) + many
        counts.append(sum(following.values()))
        states = {state: many for state, many in following.items() if state[0]}
    return counts


def machine_at(program, frames, behind):
    """A machine whose frames stand there."""
    machine = Machine(program, frames)
    machine.behind = behind
    return machine


def packed_by_chance(program, choices, chance, frames=None):
    """A packed rest that stands for these choices; frames that have ended may become lives."""
    machine = Machine(program, frames)
    lowest = machine.frames()
    lives = []
    levels = [[]]
    names = []
    for choice in choices:
        depth = len(machine.stack)
        lower = depth - len(names)
        machine.choose(choice)
        levels[-1].append(choice)
        if len(machine.stack) > depth:
            levels.append([])
            names.append(machine.stack[-1][0])
        while names and lower + len(names) > len(machine.stack):
            close_level(levels, lives, names.pop(), chance)
    items = [item for level in levels for item in level]
    return (lowest, tuple(lives), tuple(items))


def close_level(levels, lives, name, chance):
    """Ends the last of the levels: as a life, or item by item."""
    inner = levels.pop()
    if chance.random() < 0.6:
        lives.append((name, tuple(inner)))
        levels[-1].append(('life', len(lives) - 1))
    else:
        levels[-1].extend(inner)


def table_by_rules(program, cut):
    """For each function the sets of lines, ends and touched spots, by rules that are tried until nothing is new."""
    lines = {name: {0} for name, _ in program}
    ends = {name: set() for name, _ in program}
    touched = {name: set() for name, _ in program}
    before = None
    while before != repr((sizes(lines), sizes(ends), sizes(touched))):
        before = repr((sizes(lines), sizes(ends), sizes(touched)))
        for name, own in program:
            for index in list(lines[name]):
                touched[name].add((name, index))
                if (name, index) not in cut:
                    apply_rules(own[index], lines, ends, touched, name)
    return {name: (lines[name], ends[name], touched[name]) for name in lines}


def sizes(table):
    return [len(part) for part in table.values()]


def apply_rules(line, lines, ends, touched, name):
    """One round of the rules for one line at which frames of the function arrive."""
    calls, ways, handlers = line
    outcomes = set()
    for call in calls:
        if call == '':
            outcomes.add(('back',))
        else:
            outcomes |= ends[call]
            touched[name] |= touched[call]
    if ('back',) in outcomes:
        outcomes.discard(('back',))
        outcomes |= set(ways)
    for outcome in outcomes:
        if isinstance(outcome, tuple) and outcome[0] == 'fail':
            fitting = [index for kind, index in handlers if kind in ('', outcome[1])]
            outcome = fitting[0] if fitting else outcome
        if isinstance(outcome, int):
            lines[name].add(outcome)
        else:
            ends[name].add(outcome)


def twin(machine):
    """A machine that goes on from where this one is; its arrivals begin anew."""
    other = Machine.__new__(Machine)
    other.functions = machine.functions
    other.stack = [list(spot) for spot in machine.stack]
    other.behind, other.end, other.arrivals = machine.behind, machine.end, []
    return other


def following(start):
    """From a machine: the frames behind each next arrival, and the ends that come without one."""
    arrived, ends = set(), set()
    waiting = [start]
    while waiting:
        machine = waiting.pop()
        for choice in range(machine.options()):
            other = twin(machine)
            other.choose(choice)
            if not other.stack:
                ends.add(other.end)
            elif other.arrivals:
                arrived.add(other.frames())
            else:
                waiting.append(other)
    return arrived, ends


class Levels:
    """All frames that can come behind frames, arrival by arrival; those that do not go on are not gone on from.

    levels[n] has those that come first by n arrivals, ends[n] the ends that come behind n arrivals and no more. The
    beginning counts again if it is arrived at again. If the most is too few, is_all is False.
    """

    def __init__(self, program, frames, goes_on=lambda frames: True, most=300):
        self.levels = [{frames}]
        self.ends = []
        start = Machine(program, frames)
        seen = set()
        waiting = {frames}
        while waiting and len(seen) < most:
            coming, ends = set(), set()
            for one in waiting:
                if len(self.levels) == 1 or goes_on(one):
                    start.stack = [list(spot) for spot in one]
                    arrived, over = following(start)
                    coming |= arrived
                    ends |= over
            waiting = coming - seen
            seen |= waiting
            self.levels.append(waiting)
            self.ends.append(ends)
        self.is_all = not waiting

    def least(self, fits, beginning=0):
        """The fewest arrivals, at least so many, behind which frames fit; None if none of those looked at do."""
        for many, level in enumerate(self.levels):
            if many >= beginning and [frames for frames in level if fits(frames)]:
                return many
        return None

    def least_end(self, end):
        """The fewest arrivals behind which the lowest frame has ended so; None if it has not behind those looked at."""
        for many, ends in enumerate(self.ends):
            if end in ends:
                return many
        return None


def lands(command, depth, given):
    """Whether a command given at one depth lands at a later arrival of another."""
    return {'step': True, 'next': depth <= given, 'out': depth < given}[command]


def stops_by_rules(program, run, stepper):
    """The numbers of the arrivals at which a stepper stops, taken from the definition."""
    machine = machine_behind(program, ())
    stops, command, given = [0], stepper(()), 0
    for many, choice in enumerate(run):
        before = len(machine.arrivals)
        machine.choose(choice)
        if len(machine.arrivals) > before and lands(command, machine.arrivals[-1][0], given):
            stops.append(before)
            command, given = stepper(run[:many + 1]), machine.arrivals[-1][0]
    return tuple(stops)


class Halts:
    """What comes up to the halt of a command, told from all rests of frames, as far as they were looked at.

    halts and passed have arrivals, pairs of a spot and a depth. A plan can be given besides: then nothing is gone on
    from where one of its plants is hit, and fault is the fewest arrivals of a fault, and its words.
    """

    def __init__(self, program, frames, command, breaks, plan=(), most=150):
        self.order = (command, breaks, len(frames) - 1)
        self.plan = plan
        levels = Levels(program, frames, self.goes_on, most)
        arrivals = {(one[-1], len(one) - 1) for level in levels.levels[1:] for one in level}
        self.halts = {arrival for arrival in arrivals if self.halts_at(*arrival)}
        self.passed = arrivals - self.halts
        self.ends = set().union(*levels.ends)
        self.is_all = levels.is_all
        self.many = levels.least(lambda one: self.is_fault(one[-1], len(one) - 1), 1)
        self.seen = len(levels.levels) - 1
        self.words = set()
        if self.many is not None:
            self.words = {'misses' if self.halts_at(one[-1], len(one) - 1) else 'early' for one in levels.levels[
                self.many] if self.is_fault(one[-1], len(one) - 1)}

    def halts_at(self, spot, depth):
        command, breaks, last = self.order
        return spot in breaks or lands(command, depth, last)

    def is_hit(self, spot, depth):
        return [look for at, look in self.plan if at == spot and look in (-1, depth)] != []

    def is_fault(self, spot, depth):
        return self.halts_at(spot, depth) != self.is_hit(spot, depth)

    def goes_on(self, frames):
        spot, depth = frames[-1], len(frames) - 1
        return not self.halts_at(spot, depth) and not self.is_hit(spot, depth)


class Stops:
    """The stops of a stepper by the spot of its stop, in all rests of frames with so many arrivals at most.

    numbers[end] is the pair of the fewest and the most of them, for () in all rests, for an end in those over by it.
    """

    def __init__(self, program, frames, command_at, most, states=3000):
        self.numbers = {(): (1, 1)}
        start = Machine(program, frames)
        levels = {(frames, command_at(frames[-1]), len(frames) - 1): (1, 1)}
        self.is_all = False
        for _ in range(most):
            coming = {}
            for (one, command, given), many in levels.items():
                start.stack = [list(spot) for spot in one]
                arrived, ends = following(start)
                for end in ends:
                    self.note(self.numbers, end, many)
                for other in arrived:
                    state, added = (other, command, given), 0
                    if lands(command, len(other) - 1, given):
                        state, added = (other, command_at(other[-1]), len(other) - 1), 1
                    self.note(coming, state, (many[0] + added, many[1] + added))
            for many in coming.values():
                self.note(self.numbers, (), many)
            levels = coming
            if not levels or len(levels) > states:
                break
        self.is_all = not levels

    def note(self, table, key, many):
        low, high = table.get(key, many)
        table[key] = (min(low, many[0]), max(high, many[1]))


def rule_by_rules(guide, state, spot):
    """The first rule of a state that applies to a stop at the spot."""
    for rule in guide[state]:
        if rule[0] == '' or rule[0] == spot[0] or rule[0] == spot:
            return rule
    raise AssertionError('the last rule of a state applies to all')


class Follower:
    """A guide that is told of the arrivals of one run, and says at which of them it stops."""

    def __init__(self, guide, arrival):
        self.guide = guide
        self.state = 0
        self.stop_at(*arrival)

    def stop_at(self, depth, spot):
        _, self.command, self.breaks, self.state = rule_by_rules(self.guide, self.state, spot)
        self.given = depth

    def memory(self):
        return (self.command, self.breaks, self.state, self.given)

    def recall(self, memory):
        self.command, self.breaks, self.state, self.given = memory

    def stops_at(self, depth, spot):
        if spot not in self.breaks and (self.command == 'go' or not lands(self.command, depth, self.given)):
            return False
        self.stop_at(depth, spot)
        return True


def guide_stops_by_rules(program, guide, run):
    """The numbers of the arrivals at which a guide stops, choice by choice."""
    machine = machine_behind(program, run)
    follower = Follower(guide, machine.arrivals[0])
    return (0,) + tuple([k for k, arrival in enumerate(machine.arrivals) if k > 0 and follower.stops_at(*arrival)])


@functools.lru_cache(maxsize=None)
def arrived_behind(program, frames):
    """The frames behind each next arrival of these frames."""
    return tuple(sorted(following(Machine(program, frames))[0]))


class Meeting:
    """All that can come under two guides, arrival by arrival.

    many is the fewest arrivals of a run to one at which the first guide stops and the other does not, None if there is
    none among those looked at; if these are all, is_all is True.
    """

    def __init__(self, program, guide, other, most=250):
        first = (0, (program[0][0], 0))
        one, two = Follower(guide, first), Follower(other, first)
        waiting = {((first[1],), one.memory(), two.memory())}
        seen = set(waiting)
        self.many, self.arrivals = None, 0
        while waiting and self.many is None and len(seen) < most:
            self.arrivals += 1
            coming = set()
            for frames, memory, other_memory in waiting:
                for arrived in arrived_behind(program, frames):
                    one.recall(memory)
                    two.recall(other_memory)
                    arrival = (len(arrived) - 1, arrived[-1])
                    if one.stops_at(*arrival) > two.stops_at(*arrival):
                        self.many = self.arrivals
                    coming.add((arrived, one.memory(), two.memory()))
            waiting = coming - seen
            seen |= waiting
        self.is_all = not waiting


def rows_by_rules(program, guide, other):
    """The rows of a within paper: all that comes from the first frame of a run on, tried until nothing is new.

    None if guide stops somewhere where other does not.
    """
    closure = Closure(program, (guide, other))
    while closure.rounds():
        pass
    rows = closure.rows
    found = [(key[0], key[1], tuple(sorted(rows[key][0])), tuple(sorted(rows[key][1]))) for key in sorted(rows)]
    return None if closure.fails else tuple(found)


class Closure:
    """Rows that grow, for a pair of a function and of the situations behind its first arrival."""

    def __init__(self, program, guides):
        self.functions = dict(program)
        self.guides = guides
        self.fails = False
        first = program[0][0]
        pair = tuple([self.given(guide, 0, (first, 0)) for guide in guides])
        self.rows = {(first, pair): ({(0, pair)}, set())}

    def given(self, guide, state, spot):
        rule = rule_by_rules(guide, state, spot)
        word = {'step': 'lands', 'next': 'here', 'out': 'below', 'go': 'never'}[rule[1]]
        return (word, rule[3]) if word == 'lands' else (word, state, guide[state].index(rule))

    def arrived(self, pair, spot, is_call):
        stops, found = [], []
        for guide, situation in zip(self.guides, pair):
            word = situation[0]
            rule = None if word == 'lands' else guide[situation[1]][situation[2]]
            stop = word == 'lands' or word == 'here' and not is_call or spot in rule[2]
            stops.append(stop)
            if stop:
                found.append(self.given(guide, situation[1] if word == 'lands' else rule[3], spot))
            elif is_call and word != 'never':
                found.append(('kept', situation[1], situation[2]))
            else:
                found.append(situation)
        if stops[0] and not stops[1]:
            self.fails = True
        return tuple(found)

    def ended(self, pair):
        found = []
        for guide, situation in zip(self.guides, pair):
            if situation[0] in ('here', 'below'):
                situation = ('lands', guide[situation[1]][situation[2]][3])
            found.append(situation)
        return tuple(found)

    def rounds(self):
        """One round; whether something was new."""
        before = [len(part) for row in self.rows.values() for part in row]
        for name, pair in list(self.rows):
            for index, own in list(self.rows[(name, pair)][0]):
                self.go_on(name, self.rows[(name, pair)], index, own)
        return before != [len(part) for row in self.rows.values() for part in row] and not self.fails

    def go_on(self, name, row, index, own):
        calls, ways, handlers = self.functions[name][index]
        outcomes = []
        for call in calls:
            if call == '':
                outcomes.append((('back',), own))
                continue
            inner = self.arrived(own, (call, 0), True)
            called = self.rows.setdefault((call, inner), ({(0, inner)}, set()))
            for end, over in called[1]:
                outcomes.append((end, tuple([a if b[0] == 'kept' else b for a, b in zip(own, over)])))
        for end, pair in outcomes:
            for way in ways if end == ('back',) else (end,):
                if isinstance(way, tuple) and way[0] == 'fail':
                    fitting = [at for kind, at in handlers if kind in ('', way[1])]
                    way = fitting[0] if fitting else way
                if isinstance(way, tuple):
                    row[1].add((way, self.ended(pair)))
                else:
                    row[0].add((way, self.arrived(pair, (name, way), False)))


class Told:
    """What a session tells behind these events, choice by choice, by the commands themselves and not by plants."""

    def __init__(self, program, wished, events):
        self.machine = Machine(program)
        self.wished, self.on, self.fed, self.read = wished, {}, [], 0
        self.command, self.passed, self.arrived, self.halted = None, [], 0, 0
        for event in events:
            self.apply(*event)

    def apply(self, word, told, on=None):
        if word == 'feed':
            self.fed.extend(told)
        elif word == 'tell':
            spots = {spot for spot in self.on if self.on[spot]}
            self.command = (told, len(self.machine.stack) - 1, spots)
        elif word == 'break':
            self.on[told] = on
        elif word == 'clear':
            self.on.pop(told, None)
        else:
            self.wished = told
        while self.command and self.read < len(self.fed):
            self.read_one()

    def read_one(self):
        many = len(self.machine.arrivals)
        self.machine.choose(self.fed[self.read])
        self.read += 1
        if not self.machine.stack:
            self.command = None
        elif len(self.machine.arrivals) > many:
            self.arrived += 1
            depth, spot = self.machine.arrivals[-1]
            command, given, spots = self.command
            if spot in spots or command != 'go' and lands(command, depth, given):
                self.halted += 1
                self.command = None
            elif spot in self.wished:
                self.passed.append(self.arrived)

    def state(self):
        if self.command:
            return 'running'
        return 'stopped' if self.machine.stack else 'over'

    def frames(self):
        return self.machine.frames() if self.state() == 'stopped' else ()

    def here(self):
        return self.frames()[-1] if self.frames() else None

    def can_feed(self, choices):
        machine = machine_behind(tuple(self.machine.functions.items()), self.fed)
        for choice in choices:
            if choice >= machine.options():
                return False
            machine.choose(choice)
        return True

    def options(self):
        return machine_behind(tuple(self.machine.functions.items()), self.fed).options()

    def reason(self, event):
        """Why an event that is one by form is not possible, '' if it is possible."""
        word = event[0]
        if word == 'feed':
            return 'over' if self.state() == 'over' else '' if self.can_feed(event[1]) else 'choice'
        if self.state() == 'running':
            return 'running'
        return 'over' if word == 'tell' and self.state() == 'over' else ''
