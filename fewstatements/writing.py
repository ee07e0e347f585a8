"""The one form of a schema's text."""

from fewstatements.schema import CASCADE, CLEAR, GREATEST_VALUE, LEAST_VALUE


def written_schema(tables):
    """The bytes of the one form."""
    lines = []
    for table in tables:
        lines.append("table " + table.name + " {\n")
        for column in table.columns:
            lines.append(column_line(tables, column))
        lines.append("}\n")
    return [ord(sign) for sign in "".join(lines)]


def column_line(tables, column):
    if column.is_reference:
        kind = reference_kind(tables, column)
    else:
        kind = number_kind(column)
    unique = " unique" if column.is_unique else ""
    return "  " + column.name + ": " + kind + unique + ";\n"


def number_kind(column):
    if column.least == LEAST_VALUE and column.greatest == GREATEST_VALUE:
        return "number"
    return "number from " + str(column.least) + " to " + str(column.greatest)


def reference_kind(tables, column):
    kind = "ref " + tables[column.target].name
    if column.allows_none:
        kind += " none"
    if column.removal == CASCADE:
        kind += " cascade"
    elif column.removal == CLEAR:
        kind += " clear"
    return kind
