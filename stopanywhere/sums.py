"""Sums of products of atoms, for terms.

A sum is an ascending tuple of pairs (product, number), the numbers not 0; a product is an ascending tuple of the
numbers of atoms, () of none. So equal sums are equal tuples.
"""

MOST_PRODUCTS = 64
MOST_ATOMS = 8


def sum_of_number(number):
    return () if number == 0 else (((), number),)


def sum_of_atom(atom):
    return (((atom,), 1),)


def number_of(told):
    """The number that a sum is, None if it has products with atoms."""
    if told == ():
        return 0
    product, number = told[0]
    return number if len(told) == 1 and product == () else None


def atom_of(told):
    """The atom that a sum is, None if it is something else."""
    if len(told) != 1:
        return None
    product, number = told[0]
    return product[0] if len(product) == 1 and number == 1 else None


def _sum_of(numbers):
    """The sum that a dict from products to numbers tells."""
    return tuple([(product, numbers[product]) for product in sorted(numbers) if numbers[product] != 0])


def added(one, other):
    numbers = {product: number for product, number in one}
    for product, number in other:
        numbers[product] = numbers.get(product, 0) + number
    return _sum_of(numbers)


def turned(told):
    """A sum with all signs turned."""
    return tuple([(product, 0 - number) for product, number in told])


def one_less(told):
    """1 less a sum."""
    return added(sum_of_number(1), turned(told))


def multiplied(one, other):
    numbers = {}
    for product, number in one:
        for other_product, other_number in other:
            both = tuple(sorted(product + other_product))
            numbers[both] = numbers.get(both, 0) + number * other_number
    return _sum_of(numbers)


def with_value(told, atom, value):
    """A sum with a number in the place of an atom."""
    numbers = {}
    for product, number in told:
        rest = tuple([other for other in product if other != atom])
        for _ in range(len(product) - len(rest)):
            number = number * value
        numbers[rest] = numbers.get(rest, 0) + number
    return _sum_of(numbers)


def atoms_in(told):
    """The ascending list of the atoms in a sum."""
    return sorted(set([atom for product, _ in told for atom in product]))


def is_large(told):
    """Whether a sum has too many products with atoms, too many atoms in one, or too long a number before atoms."""
    with_atoms = [(product, number) for product, number in told if product != ()]
    if len(with_atoms) > MOST_PRODUCTS:
        return True
    return any([len(product) > MOST_ATOMS or is_long(number) for product, number in with_atoms])


def is_long(number):
    """Whether a number has more than 40 digits."""
    return abs(number) >= 10 ** 40


def has_long_number(told):
    """Whether the product without atoms is too long."""
    return told != () and told[0][0] == () and is_long(told[0][1])
