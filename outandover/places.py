"""All places at which two guides can be in the frames of a program.

A place is a tuple (name, index, over, pair): in a frame of this function the
line at this index has been arrived at, and over is (), or its call is over by
the end that over is; the frame has this pair. Places of the same frame lead to
one another, and to ends: pairs of an end and of the pair that the frame has
once it has ended so.
"""

from outandover.framerows import steps_after
from outandover.kinds import BACK, is_number
from outandover.moves import book_of, first_frames, line_in
from outandover.pairs import first_pair, pair_behind_arrival, pair_behind_call, pair_behind_end, pair_handed_down


class Places:
    """The places that can come from the beginning on, up to the first breach: then has_breach is True."""

    def __init__(self, program, guides):
        spot = first_frames(program)[0]
        self.book = book_of(program)
        self.guides = guides
        self.has_breach = False
        # For each place those to which it leads, those that lead to it, and the ends that can come behind.
        self.leading = {}
        self.led_by = {}
        self.ends = {}
        # For each place at which a frame begins those that call it.
        self.calling = {}
        # What is left to do: pairs of a place and of ends that are new behind it, () for a new place.
        self.waiting = []
        self.begin((spot[0], spot[1], (), first_pair(guides, spot)))
        self.find_all()

    def find_all(self):
        """Finds the places, in the order of their distance, up to the first breach."""
        done = 0
        while done < len(self.waiting) and not self.has_breach:
            place, added = self.waiting[done]
            done = done + 1
            if len(added) > 0:
                self.tell_ends(place, added)
            elif place[2] == ():
                self.call_from(place)
            else:
                self.step_from(place)

    def begin(self, place):
        """Makes a place known at which a frame begins."""
        self.discover(place)
        self.calling.setdefault(place, [])

    def discover(self, place):
        """Makes a place known."""
        if place not in self.ends:
            self.leading[place] = {}
            self.led_by[place] = []
            self.ends[place] = {}
            self.waiting.append((place, ()))

    def link(self, place, other):
        """Tells that a place leads to another one."""
        self.discover(other)
        if other not in self.leading[place]:
            self.leading[place][other] = True
            self.led_by[other].append(place)
            self.gain(place, list(self.ends[other]))

    def gain(self, place, ends):
        """Adds ends that can come behind a place."""
        known = self.ends[place]
        added = [end for end in ends if end not in known]
        for end in added:
            known[end] = True
        if added != []:
            self.waiting.append((place, added))

    def tell_ends(self, place, added):
        """Tells new ends to the places that lead to this one, and to those that call it."""
        for other in self.led_by[place]:
            self.gain(other, added)
        for other in self.calling.get(place, []):
            self.return_to(other, added)

    def call_from(self, place):
        """Goes on by the calls of the line at which a frame has arrived."""
        name, index, _, pair = place
        for call in line_in(self.book, (name, index))[0]:
            if call == "":
                self.link(place, (name, index, BACK, pair))
                continue
            breach, inner = pair_behind_call(self.guides, pair, (call, 0))
            if breach:
                self.has_breach = True
            else:
                first = (call, 0, (), inner)
                self.begin(first)
                self.calling[first].append(place)
                self.return_to(place, list(self.ends[first]))

    def return_to(self, place, ends):
        """Goes on where a called frame has ended so."""
        name, index, _, pair = place
        for end, over in ends:
            self.link(place, (name, index, end, pair_handed_down(pair, over)))

    def step_from(self, place):
        """Goes on behind a call that is over: to the next arrivals of the frame, or to its end."""
        name, index, over, pair = place
        for step in steps_after(self.book, (name, index), (over,)):
            if not is_number(step):
                self.gain(place, [(step, pair_behind_end(self.guides, pair))])
                continue
            breach, following = pair_behind_arrival(self.guides, pair, (name, step))
            if breach:
                self.has_breach = True
            else:
                self.link(place, (name, step, (), following))
