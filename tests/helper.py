"""What several files of tests use to make expressions."""

DEPTHS = (99, 100, 101, 150, 300)


def num(number):
    return ("num", number)


def deep(start, depth, around):
    """`start` with tuples put round it until it is `depth` tuples deep."""
    expression = start
    for _ in range(depth - 1):
        expression = around(expression)
    return expression
