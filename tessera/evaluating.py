"""Evaluating expressions over arrays, and storing their values (points 57 and 58)."""

from tessera.errors import InvalidExpression, InvalidShape
from tessera.expressions import is_expression, parts_of, paths_of
from tessera.selections import is_index, picked


def expression_shape(store, expression):
    """Return the shape that all arrays and views of the expression have."""
    if not is_expression(expression) or not paths_of(expression):
        raise InvalidExpression("the expression is not valid, or has no path")
    shapes = [store.shape_of(path) for path in paths_of(expression)]
    if any([shape != shapes[0] for shape in shapes]) or not shifts_fit(expression, len(shapes[0])):
        raise InvalidShape("the shapes are different, or a shift has another number of dimensions")
    return shapes[0]


def shifts_fit(expression, dimensions):
    """Tell whether each shift has as many offsets as there are dimensions."""
    if expression[0] == "shift" and len(expression[2]) != dimensions:
        return False
    return all([shifts_fit(part, dimensions) for part in parts_of(expression)])


def evaluate(store, expression, selection):
    """Return the values of the expression at the indexes that the selection picks."""
    shape = expression_shape(store, expression)
    return values_at(store, expression, shape, picked(shape, selection))


def values_at(store, expression, shape, indexes):
    """Return the values of the expression at these indexes of the shape."""
    name = expression[0]
    if name == "path":
        return store.read(expression[1], ("points", tuple(indexes)))
    if name == "number":
        return [expression[1]] * len(indexes)
    if name == "shift":
        return shifted_values(store, expression, shape, indexes)
    parts = [values_at(store, part, shape, indexes) for part in parts_of(expression)]
    return [combined(name, values) for values in zip(*parts)]


def shifted_values(store, expression, shape, indexes):
    """Return the values of a shift at these indexes of the shape."""
    _, inner, offsets = expression
    values = [0] * len(indexes)
    moved = [tuple([place + by for place, by in zip(index, offsets)]) for index in indexes]
    inside = [number for number, index in enumerate(moved) if is_index(shape, index)]
    found = values_at(store, inner, shape, [moved[number] for number in inside])
    for number, value in zip(inside, found):
        values[number] = value
    return values


def combined(name, values):
    """Return the value of the expression with this name whose parts have these values."""
    if name == "pick":
        test, left, right = values
        return left if test != 0 else right
    left, right = values
    if name == "add":
        return left + right
    if name == "sub":
        return left - right
    if name == "mul":
        return left * right
    if name == "less":
        return 1 if left < right else 0
    return min(left, right) if name == "min" else max(left, right)


def store_expression(store, path, selection, expression):
    """Write the values of the expression to the array, through the selection."""
    values = evaluate(store, expression, selection)
    # An array has a layout, and a view has none.
    store.layout_of(path)
    if store.shape_of(path) != expression_shape(store, expression):
        raise InvalidShape("the array has another shape than the expression")
    store.write(path, selection, values)
