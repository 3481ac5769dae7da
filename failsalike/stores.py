"""Stores: tables and their rows."""

from failsalike.errors import BadRow, BadTable, KeyTaken, NameTaken, NoColumn, NoRow, NoTable
from failsalike.facts import Facts
from failsalike.values import KINDS, is_name, is_value, kind_of, rank_of


class Store:
    """A store, at first without tables."""

    def __init__(self):
        self._schema = ()
        # By the names of the tables: values by numbers of rows, indices by names of columns, numbers.
        self._rows = {}
        self._columns = {}
        self._next = {}

    @staticmethod
    def of(schema):
        """A store with the tables of a schema, without rows."""
        store = Store()
        for name, columns, keys, indexes in schema:
            store.make(name, columns, keys=keys, indexes=indexes)
        return store

    def make(self, name, columns, *, keys=(), indexes=()):
        """Adds a table."""
        if self._has(name):
            raise NameTaken(name)
        part = wrong_part(name, columns, keys, indexes)
        if part is not None:
            raise BadTable(part)
        self._schema = tuple(sorted([*self._schema, (name, columns, keys, indexes)]))
        self._rows[name] = {}
        self._columns[name] = {pair[0]: at for at, pair in enumerate(columns)}
        self._next[name] = 0

    def put(self, table, *values):
        """Puts a row and returns its number."""
        made = self._table(table)
        column = wrong_column(made[1], values)
        if column is not None:
            raise BadRow(column)
        for key in made[2]:
            if values[self._columns[table][key]] in self._values(table, key):
                raise KeyTaken(key)
        number = self._next[table]
        self._rows[table][number] = values
        self._next[table] = number + 1
        return number

    def take(self, table, number):
        """Takes a row out."""
        self._table(table)
        # Python's bools are ints, but True is not the number of the row 1.
        if not isinstance(number, int) or isinstance(number, bool) or number not in self._rows[table]:
            raise NoRow(number)
        del self._rows[table][number]

    @property
    def schema(self):
        """The tables, ascending."""
        return self._schema

    def rows(self, table):
        """The pairs of numbers and values of all rows, ascending."""
        self._table(table)
        return tuple(self._rows[table].items())

    def entries(self, table, column):
        """The pairs of values and numbers of an index, by values, then by numbers."""
        if column not in self._table(table)[3]:
            raise NoColumn(column)
        at = self._columns[table][column]
        pairs = [(values[at], number) for number, values in self._rows[table].items()]
        # The rows ascend by their numbers, and sorting keeps equal values as they were.
        return tuple(sorted(pairs, key=lambda pair: rank_of(pair[0])))

    def facts(self, table, column):
        """The facts of a column."""
        if column not in [pair[0] for pair in self._table(table)[1]]:
            raise NoColumn(column)
        values = self._values(table, column)
        return Facts(*values)

    def copy(self):
        """An equal store that shares nothing with this one that can change."""
        other = Store()
        other._schema = self._schema
        other._rows = {name: {number: rows[number] for number in rows} for name, rows in self._rows.items()}
        # What is known of the columns of a table never changes.
        other._columns = {name: columns for name, columns in self._columns.items()}
        other._next = {name: number for name, number in self._next.items()}
        return other

    def __eq__(self, other):
        return (
            isinstance(other, Store)
            and self._schema == other._schema
            and self._rows == other._rows
            and self._next == other._next
        )

    def row_numbers(self, table):
        """The numbers of the rows of a table that is there, ascending."""
        return list(self._rows[table])

    def value_at(self, table, number, column):
        """The value of a row that is there in a column that is there."""
        return self._rows[table][number][self._columns[table][column]]

    def next_number(self, table):
        """The number that the next row of a table that is there gets."""
        return self._next[table]

    def skip_to(self, table, number):
        """The next row of a table that is there gets this number, no less than the one that it would get."""
        self._next[table] = number

    def _has(self, name):
        return name in [table[0] for table in self._schema]

    def _table(self, name):
        for table in self._schema:
            if table[0] == name:
                return table
        raise NoTable(name)

    def _values(self, table, column):
        at = self._columns[table][column]
        return [values[at] for values in self._rows[table].values()]


def wrong_part(name, columns, keys, indexes):
    """The name of the first part of a table that is not right; None if all are."""
    if not is_name(name):
        return "name"
    if not are_columns(columns):
        return "columns"
    names = [pair[0] for pair in columns]
    if not is_ascending_of(names, keys):
        return "keys"
    if not is_ascending_of(names, indexes):
        return "indexes"
    return None


def are_columns(thing):
    """Whether this is a tuple of one to four columns with different names."""
    if not isinstance(thing, tuple) or not 1 <= len(thing) <= 4:
        return False
    if not all([is_column(pair) for pair in thing]):
        return False
    return len(set([pair[0] for pair in thing])) == len(thing)


def is_column(thing):
    """Whether this is a pair of a name and a nonempty ascending tuple of kinds."""
    if not isinstance(thing, tuple) or len(thing) != 2 or not is_name(thing[0]):
        return False
    return thing[1] != () and is_ascending_of(KINDS, thing[1])


def is_ascending_of(names, thing):
    """Whether this is an ascending tuple of some of these names."""
    if not isinstance(thing, tuple):
        return False
    return list(thing) == [name for name in sorted(names) if name in thing]


def wrong_column(columns, values):
    """The index of the first value that its column does not let in, or whose column or value is missing."""
    for at, (pair, value) in enumerate(zip(columns, values)):
        if not is_value(value) or kind_of(value) not in pair[1]:
            return at
    return None if len(values) == len(columns) else len(columns)
