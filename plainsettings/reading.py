"""A text read line by line into one table."""

from plainsettings.kinds import BY_LINE, empty_table
from plainsettings.line_reader import ROW_LINE, SETTING, TABLE_LINE, read_line
from plainsettings.tables import put_setting, row_of_line, table_of_line


class Reading:
    """What the lines so far have said: the whole, and the table in it that settings go to now."""

    def __init__(self):
        self.whole = empty_table(BY_LINE)
        self.current = self.whole

    def take_line(self, row):
        line = read_line(row)
        if line.form == TABLE_LINE:
            self.current = table_of_line(self.whole, line.names)
        elif line.form == ROW_LINE:
            self.current = row_of_line(self.whole, line.names)
        elif line.form == SETTING:
            put_setting(self.current, line.names, line.value)
