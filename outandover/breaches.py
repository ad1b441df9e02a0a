"""The fewest arrivals of a run to a breach of two guides.

Runs are found in the order of their arrivals, by heads as those of the module
leastsums; their bodies are of choices and of other heads:
- ("run", place): from the beginning to the place at which a frame begins;
- ("own", first, place): from there on in this frame to another place of it;
- ("life", name, first, end): from there to its end, the pair of an end and of
  the pair that it then has;
- ("breach",): from the beginning to a breach.
The total of a run is that of its arrivals, the total of the others that of the
least run to the place at which their frame begins, and of their own arrivals.
"""

from heapq import heappop, heappush

from outandover.framerows import step_by
from outandover.kinds import BACK, is_number
from outandover.moves import book_of, first_frames, line_in
from outandover.packedbodies import packed_by
from outandover.pairs import first_pair, pair_behind_arrival, pair_behind_call, pair_behind_end, pair_handed_down

BREACH = ("breach",)


class Breaches:
    """The search for the nearest breach, of which it is known that there is one."""

    def __init__(self, program, guides):
        self.book = book_of(program)
        self.guides = guides
        # The rules are made as they are needed: pairs of a head and of a body, with their totals in the queue.
        self.rules = []
        self.queue = []
        self.sums = {}
        # For each place at which a frame begins: pairs of a head and a choice that call it, and the heads of its lives.
        self.callers = {}
        self.lives = {}
        spot = first_frames(program)[0]
        self.put_rule(("run", (spot[0], spot[1], (), first_pair(guides, spot))), 0, ())

    def find_breach(self):
        """The heads, in the order of their totals, up to that of the breach."""
        while BREACH not in self.sums:
            total, k = heappop(self.queue)
            head, body = self.rules[k]
            if head not in self.sums:
                self.sums[head] = (total, body)
                self.follow(head, total)
        return self.sums

    def put_rule(self, head, total, body):
        """Adds a rule, of which all heads in the body are known."""
        if head not in self.sums:
            heappush(self.queue, (total, len(self.rules)))
            self.rules.append((head, body))

    def follow(self, head, total):
        """Adds the rules of which this head is the last one in the body that had to become known."""
        if head[0] == "run":
            self.put_rule(("own", head[1], head[1]), total, ())
        elif head[0] == "life":
            self.lives.setdefault(head[2], []).append(head)
            for caller, choice in self.callers.get(head[2], []):
                self.return_to(caller, choice, head)
        elif head[0] == "own" and head[2][2] == ():
            self.call_from(head, total)
        elif head[0] == "own":
            self.step_from(head, total)

    def call_from(self, head, total):
        """Adds what comes by the calls of the line at which a frame has arrived."""
        _, first, (name, index, _, pair) = head
        for i, call in enumerate(line_in(self.book, (name, index))[0]):
            if call == "":
                self.put_rule(("own", first, (name, index, BACK, pair)), total, (head, i))
                continue
            breach, inner = pair_behind_call(self.guides, pair, (call, 0))
            begun_at = (call, 0, (), inner)
            self.put_rule(BREACH if breach else ("run", begun_at), total + 1, (("run", first), head, i))
            if not breach:
                self.callers.setdefault(begun_at, []).append((head, i))
                for life in self.lives.get(begun_at, []):
                    self.return_to(head, i, life)

    def return_to(self, head, choice, life):
        """Adds what comes once the frame that is called by this choice has ended so."""
        _, first, (name, index, _, pair) = head
        end, over = life[3]
        inside = self.sums[life][0] - self.sums[("run", life[2])][0]
        place = (name, index, end, pair_handed_down(pair, over))
        self.put_rule(("own", first, place), self.sums[head][0] + 1 + inside, (head, choice, life))

    def step_from(self, head, total):
        """Adds what comes behind a call that is over: the next arrivals of the frame, or its end."""
        _, first, (name, index, over, pair) = head
        if over != BACK:
            self.take_step(head, total, step_by(self.book, (name, index), over), (head,))
            return
        for w, way in enumerate(line_in(self.book, (name, index))[1]):
            self.take_step(head, total, step_by(self.book, (name, index), way), (head, w))

    def take_step(self, head, total, step, body):
        """Adds what comes by one step: the index of a line, or an end."""
        _, first, (name, _, _, pair) = head
        if not is_number(step):
            end = (step, pair_behind_end(self.guides, pair))
            self.put_rule(("life", first[0], first, end), total, body)
            return
        breach, following = pair_behind_arrival(self.guides, pair, (name, step))
        if breach:
            self.put_rule(BREACH, total + 1, (("run", first),) + body)
        else:
            self.put_rule(("own", first, (name, step, (), following)), total + 1, body)


def least_breach(program, guides):
    """A packed run with the fewest arrivals to a breach; there must be one."""
    search = Breaches(program, guides)
    return packed_by(first_frames(program), search.find_breach(), BREACH)
