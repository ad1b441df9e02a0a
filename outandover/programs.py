"""Programs as objects."""

from outandover.errors import NotUsable
from outandover.kinds import is_name, is_pair
from outandover.programchanges import without_function
from outandover.programchecker import lets_program
from outandover.programparts import has_spot, lines_of, names_of, spots_of
from outandover.programreadings import program_read
from outandover.programtexts import program_text

SHORTEST = (("main", ((("",), (("back",),), ()),)),)


class Program:
    """A checked program, which never changes."""

    def __init__(self, functions=SHORTEST):
        lets_program(functions)
        self._functions = functions

    @property
    def functions(self):
        """The tuple of the functions."""
        return self._functions

    @property
    def first(self):
        """The name of the first function."""
        return self._functions[0][0]

    @property
    def spots(self):
        """The set of all spots."""
        return spots_of(self._functions)

    def __add__(self, other):
        if is_pair(other) and is_name(other[0]) and other[0] in names_of(self._functions):
            raise NotUsable("name", other[0])
        return Program(self._functions + (other,))

    def __sub__(self, other):
        return Program(without_function(self._functions, other))

    def __getitem__(self, at):
        return lines_of(self._functions, at)

    def __iter__(self):
        raise TypeError("a program is not iterated over")

    def __contains__(self, x):
        return is_name(x) and x in names_of(self._functions) or has_spot(self._functions, x)

    def __len__(self):
        return len(spots_of(self._functions))

    def __eq__(self, other):
        return isinstance(other, Program) and self._functions == other._functions

    def __str__(self):
        return str(program_text(self._functions))

    @classmethod
    def read(cls, text):
        """The program that a string writes."""
        return cls(program_read(text))

    @staticmethod
    def one_function(*lines):
        """The program of one function, main, with these lines."""
        return Program((("main", lines),))
