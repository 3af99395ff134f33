"""The shortest sort key that explains the order of a table's rows."""
