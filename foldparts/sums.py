"""Sums of terms: the reader and the writer of their text form, and their forms over states.

A term is a tuple (at, fields, coefficient): at is the number of its register, or how many
registers there are if it has none, and fields is a tuple of the numbers of its fields.
"""

from foldparts.errors import InvalidText
from foldparts.ratios import Ratio

# The products of fields, by the number of fields, in the order of a sum.
_FIELD_PRODUCTS = (
    ((),),
    ((), (0,), (0, 0)),
    ((), (0,), (1,), (0, 0), (0, 1), (1, 1)),
)


def read_number(text):
    """Return the Ratio that is written as the text, or None."""
    try:
        return Ratio.parse(text)
    except InvalidText:
        return None


def product_table(registers, fields):
    """Return a dict from each product of a register and fields, as it is written, to (at, fields).

    registers and fields are names. The products are in the order of a sum; without any factor it is "".
    """
    table = {}
    for at, name in enumerate([*registers, ""]):
        for chosen in _FIELD_PRODUCTS[len(fields)]:
            factors = [name] + [fields[place] for place in chosen]
            table["*".join([factor for factor in factors if factor != ""])] = (at, chosen)
    return table


def read_sum(words, table):
    """Return the tuple of the terms of the sum with these words, or None if there is no such sum.

    The words are what stands between the spaces; the table is that of the products that may occur.
    """
    if words == ["0"]:
        return ()
    read = [_read_term(sign, text, table) for sign, text in _signed_texts(words)]
    if read == [] or None in read:
        return None
    products = [product for product, coefficient in read]
    # This refuses another order, a doubled product, and one that is not in the table.
    if products != [product for product in table if product in products]:
        return None
    return tuple([(*table[product], coefficient) for product, coefficient in read])


def _signed_texts(words):
    """Return the list of pairs (word before a term, term), empty if the words are not in pairs."""
    if len(words) % 2 == 0:
        return []
    first = words[0]
    if first.startswith("-"):
        signed = ["-", first[1:], *words[1:]]
    else:
        signed = ["+", *words]
    return list(zip(signed[::2], signed[1::2]))


def _read_term(sign, text, table):
    """Return the pair (product, coefficient) of a term behind its sign, or None if it is no term.

    The product may be any text if the term has a coefficient.
    """
    number, star, product = text.partition("*")
    if text != "" and text in table:
        number, product = "1", text
    elif star == "*" and (number == "1" or product == ""):
        return None
    coefficient = read_number(number)
    if sign not in ("+", "-") or coefficient is None or coefficient.top < 1:
        return None
    return (product, -coefficient if sign == "-" else coefficient)


def write_sum(products, coefficients):
    """Return the text of the sum of some products, in the order of a sum, each one with its coefficient."""
    text = ""
    for product, coefficient in zip(products, coefficients):
        if coefficient.top > 0:
            text = text + (" + " if text != "" else "") + _term_text(coefficient, product)
        elif coefficient.top < 0:
            text = text + (" - " if text != "" else "-") + _term_text(-coefficient, product)
    return text if text != "" else "0"


def _term_text(coefficient, product):
    """Return the text of a term without its sign."""
    if product == "":
        return str(coefficient)
    if coefficient == Ratio(1, 1):
        return product
    return str(coefficient) + "*" + product


def sum_form(terms, size, numbers):
    """Return the form of a sum over states of this size, for these numbers in the fields."""
    # Not written as a product: the operators of Formula come here, so the list must plainly be a new one.
    form = [Ratio(0, 1) for place in range(size)]
    for at, fields, coefficient in terms:
        product = 1
        for field in fields:
            product = product * numbers[field]
        form[at] = form[at] + coefficient * Ratio(product, 1)
    return form
