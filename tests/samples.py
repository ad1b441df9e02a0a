"""Values that the tests share."""

from random import Random

from oracle import Machine

MAIN = ('main', ((('f',), (1,), (('', 2),)), (('',), (('back',), 0), ()), (('', 'g'), (('back',),), ())))
F = ('f', ((('',), (1, ('fail', 'bad')), ()), (('', 'g'), (('back',),), ())))
G = ('g', ((('',), (('back',),), ()),))
PROGRAM = (MAIN, F, G)
RUN = (0, 0, 0, 1, 0, 0, 0, 0, 0, 0)
AGAIN = (('again', ((('', 'again'), (1,), ()), (('',), (('back',),), ()))),)
TWICE = (('twice', ((('', 'twice'), (1,), ()), (('', 'twice'), (('back',),), ()))),)
BACK = ('back',)
WATCH = ((('f', 'step', (), 0), ('', 'next', (('g', 0),), 0)),)
GO = ((('', 'go', (('g', 0),), 0),),)
STEP = ((('', 'step', (), 0),),)
LIVES = (('g', (0, 0)), ('f', (0, 0, 1, ('life', 0), 0)))
PACKED = ((('main', 0),), LIVES, (0, ('life', 1), 0))
LONG = ((('twice', 0),), (('twice', (0, 0, 0, 0)), ('twice', (1, ('life', 0), 0, 1, ('life', 0), 0))), (1, ('life', 1)))

# Three functions that call one another in a ring, and one that nothing calls.
RING = (
    ('a', ((('b',), (1, BACK), ()), (('', 'a'), (BACK,), ()))),
    ('b', ((('c',), (BACK, ('fail', 'x')), ()),)),
    ('c', ((('', 'a'), (BACK, ('fail', 'y')), (('x', 1), ('', 0))), (('',), (BACK,), ()))),
    ('lone', ((('', 'lone'), (BACK,), ()),)),
)

# Faults that are handled by a kind, by the first of two handlers that fit, by "", and by none, deep down.
FAULTS = (
    ('top', (
        (('mid',), (4,), (('red', 1), ('', 2), ('blue', 3))),
        (('',), (BACK,), ()),
        (('',), (BACK,), ()),
        (('',), (BACK,), ()),
        (('', 'mid'), (BACK, ('fail', 'last')), (('blue', 3),)),
    )),
    ('mid', ((('low', 'mid'), (BACK,), (('green', 1),)), (('',), (BACK,), ()))),
    ('low', ((('',), (BACK, ('fail', 'blue'), ('fail', 'green'), ('fail', 'red')), ()),)),
)

# Frames that never end: nothing leads out of loops, and waits has no way to come back from them.
STUCK = (
    ('begins', ((('', 'loops'), (1,), ()), (('waits',), (BACK,), (('', 0),)))),
    ('loops', ((('',), (0,), ()),)),
    ('waits', ((('loops',), (BACK, 1), ()), (('',), (BACK,), ()))),
)

SAMPLES = (PROGRAM, AGAIN, TWICE, RING, FAULTS, STUCK, (F, G), (G,))


def nested(depth, inner=()):
    """A tuple nested so deep."""
    for _ in range(depth):
        inner = (inner,)
    return inner


def anything():
    """Values of every kind, new ones each time."""
    return [
        0, 1, -1, 10 ** 59, True, False, None, '', 'f', 'main', 'again', 'F', 'a b', 'x\ny', 'ninechars', 'step',
        (), [], [[]], ((),), ('f',), ['f'], ('f', 0), ['f', 0], ('f', True), ('f', False), ('f', -1), ('f', 0, 0),
        ('f', '0'), ('', 0), ('F', 0), (0, 'f'), ('f', None), ('back',), ['back'], ('back', 'f'), ('fail',),
        ('fail', 'bad'), ('fail', ''), ('fail', 'Bad'), ['fail', 'bad'], ('f', ()), ('f', []), (('f', 0),),
        (0,), (True,), (0, 1, 2), ('life', 0), nested(30), nested(29, [1]), [nested(29)], (1, [2, (None, 'x')]),
        (((), (), ()),), ((('',), (('back',),), ()),), PROGRAM, list(PROGRAM), MAIN, list(MAIN), G, ('f', (G,)),
        tuple(range(5000)), ['x'] * 5000,
    ]


def random_program(seed):
    """A small program; the same one for the same seed."""
    chance = Random(seed)
    names = ['a', 'b', 'c', 'd'][:chance.randint(1, 4)]
    chance.shuffle(names)
    return tuple([(name, random_lines(chance, names)) for name in names])


def random_lines(chance, names):
    """Lines of a function of a program with these names."""
    many = chance.randint(1, 4)
    ends = [BACK, ('fail', 'x'), ('fail', 'y')]
    lines = []
    for _ in range(many):
        calls = sorted(chance.sample([''] + names, chance.randint(1, min(3, len(names) + 1))))
        known = list(range(many)) + ends
        ways = chance.sample(known, chance.randint(1, 3))
        kinds = chance.sample(['', 'x', 'y'], chance.randint(0, 2))
        handlers = tuple([(kind, chance.randrange(many)) for kind in kinds])
        lines.append((tuple(calls), tuple(ways), handlers))
    return tuple(lines)


def random_run(program, seed, length):
    """A run of at most so many choices, made by the oracle."""
    chance = Random(seed)
    machine = Machine(program)
    run = []
    while len(run) < length and machine.options() > 0:
        run.append(chance.randrange(machine.options()))
        machine.choose(run[-1])
    return tuple(run)


def cuts_of(program):
    """Some cuts: none, each spot alone, pairs, all, and spots that the program does not have."""
    spots = tuple(sorted([(name, index) for name, lines in program for index in range(len(lines))]))
    found = [(), spots, (('zz', 0),), tuple(sorted(spots[:1] + (('zz', 3), (spots[0][0], 11))))]
    found.extend([(spot,) for spot in spots])
    found.extend(list(zip(spots, spots[1:])))
    return found


def chain(names, many):
    """Functions of so many lines each, each line of which calls the next function, or nothing in the last one."""
    functions = []
    for name, following in zip(names, tuple(names[1:]) + ('',)):
        lines = [((following,), (index + 1,), ()) for index in range(many - 1)]
        functions.append((name, tuple(lines) + (((following,), (BACK,), ()),)))
    return tuple(functions)


# Faults that leave several frames, up to a handler of their kind, to one of "", or to none; rings of calls; loops.
DEEP = (
    ('a', ((('', 'b'), (0, BACK), (('x', 1), ('', 2))), (('b',), (BACK,), ()), (('', 'a'), (1,), ()))),
    ('b', ((('c', 'd'), (1,), (('y', 1),)), (('d',), (BACK,), ()))),
    ('c', ((('b', 'd'), (BACK,), ()),)),
    ('d', ((('',), (('fail', 'x'), ('fail', 'y'), ('fail', 'z')), ()), (('',), (BACK,), ()))),
)


def further(program):
    """The program with further calls, ways, lines and functions."""
    last = program[-1][0]
    found = [program + (('zzz', ((('', 'zzz'), (BACK,), ()),)),)]
    for k, (name, lines) in enumerate(program):
        for index, (calls, ways, handlers) in enumerate(lines[:2]):
            more = tuple([way for way in (0, BACK, ('fail', 'new')) if way not in ways])
            for line in ((tuple(sorted({*calls, '', last})), ways, handlers), (calls, ways + more, handlers)):
                found.append(program[:k] + ((name, lines[:index] + (line,) + lines[index + 1:]),) + program[k + 1:])
    return found + [tuple([(name, lines + ((('',), (0,), ()),)) for name, lines in program])]


def random_frames(program, chance, most):
    """Frames of a program, at most so many; the lines need not be such as frames can arrive at."""
    book = dict(program)
    name = chance.choice(sorted(book))
    frames = []
    while name and len(frames) < most:
        index = chance.randrange(len(book[name]))
        frames.append((name, index))
        name = chance.choice(book[name][index][0])
    return tuple(frames)


def random_tree(seed):
    """A program whose functions call those behind them, and whose lines lead on to later ones, with few exceptions."""
    chance = Random(seed)
    names = 'abcd'[:chance.randint(2, 4)]
    functions = []
    for k, name in enumerate(names):
        many = chance.randint(1, 4)
        lines = []
        for index in range(many):
            callees = [''] + list(names[k + 1:] if chance.random() < 0.95 else names)
            calls = tuple(sorted(chance.sample(callees, chance.randint(1, min(2, len(callees))))))
            later = list(range(index + 1, many)) if chance.random() < 0.95 else list(range(many))
            known = later + [BACK, ('fail', 'x'), ('fail', 'y')]
            ways = tuple(chance.sample(known, chance.randint(1, min(3, len(known)))))
            handlers = tuple([(kind, chance.choice(later or [many - 1])) for kind in chance.sample(
                ['', 'x', 'y'], chance.randint(0, 2)) if later])
            lines.append((calls, ways, handlers))
        functions.append((name, tuple(lines)))
    return tuple(functions)


def random_guide(chance, program, states=3, rules=3, breaks=2):
    """A guide for a program; its names and spots may be such as the program does not have."""
    many = chance.randint(1, states)
    names = sorted([name for name, _ in program]) + ['zz']

    def spot():
        name = chance.choice(names)
        return (name, chance.randrange(len(dict(program).get(name, 'x')) + 1))

    def rule(where):
        spots = {spot() for _ in range(chance.randint(0, breaks))}
        command = chance.choice(['step', 'next', 'out', 'go', 'next', 'out'])
        return (where, command, tuple(sorted(spots)), chance.randrange(many))

    found = []
    for _ in range(many):
        wheres = [chance.choice(['', chance.choice(names), spot(), spot()]) for _ in range(chance.randrange(rules))]
        found.append(tuple([rule(where) for where in wheres + ['']]))
    return tuple(found)


def bolder(chance, program, guide):
    """The guide with some of its commands made to go further, or some of its breakpoints left out."""
    further_ones = {'step': 'next', 'next': 'out', 'out': 'go', 'go': 'go'}
    states = []
    for state in guide:
        rules = []
        for where, command, breaks, following in state:
            if chance.random() < 0.3:
                command = further_ones[command]
            breaks = tuple([spot for spot in breaks if chance.random() < 0.8])
            rules.append((where, command, breaks, following))
        states.append(tuple(rules))
    return tuple(states)


def guided_programs():
    """Programs for guides: those above, and others by chance."""
    return SAMPLES + (DEEP,) + tuple([random_program(seed) for seed in range(60)])
