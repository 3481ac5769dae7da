"""The store and the questions of the examples of the interface."""

from failsalike.stores import Store

NAME, PRICE = ("column", "i", "name"), ("column", "i", "price")
SOLD = ("same", NAME, ("column", "s", "name"))
CHEAP = ("less", PRICE, ("value", 5))
REFS = (("i", "item"), ("s", "sale"))
ONE = (REFS, ("and", SOLD, CHEAP), (NAME,), (), None)
TWO = (REFS, ("and", CHEAP, SOLD), (NAME,), (), None)


def shop():
    """SHOP of the examples, made anew."""
    store = Store()
    store.make("item", (("name", ("word",)), ("price", ("nothing", "number", "word"))), indexes=("price",))
    store.make("sale", (("name", ("word",)), ("count", ("number",))), keys=("name",))
    for name, price in (("cup", 4), ("hat", None), ("pen", "dear")):
        store.put("item", name, price)
    for name, count in (("cup", 2), ("pen", 9)):
        store.put("sale", name, count)
    return store
