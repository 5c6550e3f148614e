"""Scripts: lists of deeds that can be done one after another; written as texts, and read from texts."""

from eitherbarter.deeds import stock_behind, turned_deed
from eitherbarter.errors import BadDeed
from eitherbarter.lexemes import Reader, written


def stocks_along(book, stock, script):
    """The list of the stocks that a script comes through."""
    stocks = stocks_so_far(book, stock, script)
    if len(stocks) <= len(script):
        raise BadDeed(len(stocks) - 1)
    return stocks


def stocks_so_far(book, stock, members):
    """The stock and those behind the members, up to the first one that is no deed that can be done then."""
    stocks = [stock]
    for member in members:
        stock = stock_behind(book, stock, member)
        if stock is None:
            return stocks
        stocks.append(stock)
    return stocks


def walked(book, stock, script):
    """The stock to which a script leads."""
    return stocks_along(book, stock, script)[-1]


def script_back(book, stock, script):
    """The list of the deeds of the script taken back."""
    stocks_along(book, stock, script)
    return [turned_deed(deed) for deed in reversed(script)]


def first_bad(book, stock, value):
    """None if the value is a script, and otherwise the number of the first member that is wrong."""
    if not isinstance(value, (list, tuple)):
        return 0
    stocks = stocks_so_far(book, stock, value)
    return None if len(stocks) > len(value) else len(stocks) - 1


def price(book, prices, script):
    """The price of a script, whether it can be done or not."""
    return sum([prices[book.barter_number(deed[0])] for deed in script])


def script_text(script):
    """The text of a script."""
    parts = ["script", "{"]
    for name, way in script:
        parts.extend(["forward" if way == 1 else "back", name, ";"])
    parts.append("}")
    return written(parts)


def read_script(text):
    """The list of the deeds that a text tells, whatever book it is for."""
    reader = Reader(text)
    reader.take("script")
    reader.take("{")
    script = []
    while not reader.sees("}"):
        script.append(read_deed(reader))
    reader.take("}")
    reader.take_end()
    return script


def read_deed(reader):
    """One deed of a text."""
    way = 1 if reader.sees("forward") else -1
    reader.take("forward" if way == 1 else "back")
    name = reader.take_sort("word")
    reader.take(";")
    return (name, way)
