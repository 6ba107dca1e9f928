"""Tables, the sums of rows, and free lots."""

from fewtold.checks import check_lot, check_row, check_table, has_table_form
from fewtold.columns import are_free
from fewtold.rows import all_sums


def is_table(value):
    """Whether a value, whatever it is, is a table."""
    return has_table_form(value)


def sums_of(table, row):
    """For each row of the table the sum of its products with a row."""
    check_table(table)
    check_row(row, len(table[0]))
    return all_sums(table, row)


def is_free(table, lot):
    """Whether no dependence of the table has its lot within the told one."""
    check_table(table)
    check_lot(lot, len(table[0]))
    return are_free(table, lot)
