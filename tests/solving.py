"""Systems and environments out of texts, and back; plain linear algebra with Fractions."""

from fractions import Fraction

from building import containers, shape
from linkwork.expressions import expression_text, read_expression
from linkwork.ratios import Ratio, ratio_text, read_ratio
from linkwork.systems import System, Variable, check


def value(text):
    text = text.strip()
    return text == "true" if text in ("true", "false") else read_ratio(text)


def variable(text):
    """The Variable of a text such as "state x = 1/2!", "parameter? p = true": ? for truths, ! for fixed."""
    front, _, worth = text.partition("=")
    kind, name = front.split()
    truth = kind.endswith("?")
    kind = kind.rstrip("?")
    number = value(worth.rstrip("! ")) if worth else None
    if kind == "parameter":
        return Variable(name, kind, truth, value=number)
    return Variable(name, kind, truth, start=number, fixed=worth.strip().endswith("!"))


def sides(text):
    """The two sides of a text such as "@x' = neg(@x)"."""
    left, right = text.split(" = ")
    return (read_expression(left), read_expression(right))


def act(text):
    """The act of a text such as "d := 1" or "reset x := 1"."""
    name, right = text.split(" := ")
    word = "reset" if name.startswith("reset ") else "assign"
    return (word, name.removeprefix("reset "), read_expression(right))


def when(text):
    """The condition and the acts of a text such as "less(1,@x): d := 1; reset x := 0"."""
    condition, _, acts = text.partition(":")
    return (read_expression(condition), [act(part.strip()) for part in acts.split(";") if part.strip()])


def built(variables, equations=(), initials=(), whens=()):
    """A good system: variables with "," between them; equations e1, e2, .., i1, .., w1, .. or by their names."""
    found = [variable(text) for text in variables.split(",") if text.strip()]
    system = System(
        {item.name: item for item in found},
        {name: sides(text) for name, text in named("e", equations)},
        {name: sides(text) for name, text in named("i", initials)},
        {name: when(text) for name, text in named("w", whens)},
    )
    check(system)
    return system


def named(letter, texts):
    if isinstance(texts, dict):
        return list(texts.items())
    return [(f"{letter}{at + 1}", text) for at, text in enumerate(texts)]


def env(text):
    """The environment of a text such as "time = 1, @x' = 1/2, pre@d = true"."""
    found = {}
    for part in text.split(","):
        if part.strip():
            key, worth = part.split("=")
            found[read_expression(key.strip())] = value(worth)
    return found


def env_text(environment):
    """The environment as a text, in the order of the texts of its keys."""
    return ", ".join(sorted(f"{expression_text(key)} = {ratio_text(environment[key])}" for key in environment))


def key(text):
    return read_expression(text)


def keys(text):
    return [read_expression(part) for part in text.split()]


def ratios(text):
    """The Ratios of a text such as "1 1/2 -3"."""
    return [read_ratio(part) for part in text.split()]


def rows(text):
    """The rows of a text such as "1 0; 0 1"."""
    return [ratios(part) for part in text.split(";")] if text else []


def rows_text(matrix):
    return "; ".join(" ".join(ratio_text(number) for number in row) for row in matrix)


def fraction(number):
    return Fraction(number.top, number.bottom)


def fractions(matrix):
    return [[fraction(number) for number in row] for row in matrix]


def ratio(number):
    number = Fraction(number)
    return Ratio(number.numerator, number.denominator)


def solutions(matrix, constants):
    """One solution of rows of Fractions, or None, and how many columns remain open: plain Gauss and Jordan."""
    table = [[*row, constant] for row, constant in zip(matrix, constants)]
    width = len(matrix[0]) if matrix else 0
    leads = []
    for column in range(width):
        pivot = next((row for row in table[len(leads):] if row[column] != 0), None)
        if pivot is None:
            continue
        table.remove(pivot)
        pivot = [number / pivot[column] for number in pivot]
        table.insert(len(leads), pivot)
        leads.append(column)
        for at, row in enumerate(table):
            if at != len(leads) - 1:
                table[at] = [number - row[column] * other for number, other in zip(row, pivot)]
    if any(row[width] != 0 for row in table[len(leads):]):
        return (None, width - len(leads))
    found = [Fraction(0)] * width
    for lead, row in zip(leads, table):
        found[lead] = row[width]
    return (found, width - len(leads))


def plain_rank(matrix):
    width = len(matrix[0]) if matrix else 0
    return width - solutions(matrix, [Fraction(0)] * len(matrix))[1]


class Unchanged:
    """For test cases: calls that must leave their arguments as they are, and share nothing with them."""

    def unchanged(self, function, *arguments):
        before = shape(list(arguments))
        try:
            found = function(*arguments)
        finally:
            self.assertEqual(shape(list(arguments)), before)
        self.assertFalse(containers(found) & containers(list(arguments)))
        return found

    def refused(self, error, function, *arguments):
        with self.assertRaises(error) as caught:
            self.unchanged(function, *arguments)
        self.assertIs(caught.exception.__class__, error)
