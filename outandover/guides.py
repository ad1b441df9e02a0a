"""Guides as objects."""

from outandover.errors import NotUsable
from outandover.guidechecker import lets_guide
from outandover.guidereadings import guide_read
from outandover.guidetexts import guide_text
from outandover.kinds import is_number, is_spot
from outandover.situations import rule_for


class Guide:
    """A checked guide, which never changes."""

    def __init__(self, states):
        lets_guide(states)
        self._states = states

    @property
    def states(self):
        """The tuple of the states."""
        return self._states

    @property
    def breaks(self):
        """The set of all spots in the breakpoints of the rules."""
        return tuple(sorted(set([spot for state in self._states for rule in state for spot in rule[2]])))

    def without(self, state, rule, spot):
        """The guide without this breakpoint of this rule."""
        rules = self[state]
        if not is_number(rule) or rule >= len(rules):
            raise NotUsable("rule", rule)
        where, command, breaks, following = rules[rule]
        if not is_spot(spot) or spot not in breaks:
            raise NotUsable("spot", spot)
        changed = (where, command, tuple([other for other in breaks if other != spot]), following)
        changed_state = rules[:rule] + (changed,) + rules[rule + 1:]
        return Guide(self._states[:state] + (changed_state,) + self._states[state + 1:])

    def __call__(self, state, spot):
        rules = self[state]
        if not is_spot(spot):
            raise NotUsable("spot", spot)
        _, command, breaks, following = rules[rule_for(self._states, state, spot)]
        return (command, breaks, following)

    def __getitem__(self, at):
        if not is_number(at) or at >= len(self._states):
            raise NotUsable("state", at)
        return self._states[at]

    def __iter__(self):
        raise TypeError("a guide is not iterated over")

    def __len__(self):
        return len(self._states)

    def __eq__(self, other):
        return isinstance(other, Guide) and self._states == other._states

    def __str__(self):
        return str(guide_text(self._states))

    @classmethod
    def read(cls, text):
        """The guide that a string writes."""
        return cls(guide_read(text))
