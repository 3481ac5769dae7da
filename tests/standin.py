"""A stand-in for stores: what the interface lists for reading them, and nothing else."""

from failsalike.facts import Facts

# The schema of the examples of the interface.
SCHEMA = (
    ("item", (("name", ("word",)), ("price", ("nothing", "number", "word"))), (), ("price",)),
    ("sale", (("name", ("word",)), ("count", ("number",))), ("name",), ()),
)


class StandIn:
    """A store of a schema with some rows of its tables, which are numbered from 0."""

    def __init__(self, schema, **rows):
        self.schema = schema
        self._rows = {table[0]: tuple(enumerate(rows.get(table[0], ()))) for table in schema}
        self._columns = {table[0]: [pair[0] for pair in table[1]] for table in schema}

    def rows(self, table):
        return self._rows[table]

    def entries(self, table, column):
        at = self._columns[table].index(column)
        pairs = [(values[at], number) for number, values in self._rows[table]]
        return tuple(sorted(pairs, key=lambda pair: (pair[0] is not None, isinstance(pair[0], str), pair)))

    def facts(self, table, column):
        at = self._columns[table].index(column)
        return Facts(*[values[at] for _, values in self._rows[table]])


def shop():
    """The store of the examples of the interface."""
    items = (("cup", 4), ("hat", None), ("pen", "dear"))
    return StandIn(SCHEMA, item=items, sale=(("cup", 2), ("pen", 9)))
