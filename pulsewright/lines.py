"""A loft's lines: what was written on them, and what stands there now."""

from pulsewright.windows import LOST, slide, sliding_reach


class Line:
    """A table with its name, the row as it stands and as it was written, the message, and the writer's pair."""

    def __init__(self, table_name, coder, signs, clean, message, writer, begins_late):
        self.table_name = table_name
        self.coder = coder
        self.signs = signs
        self.clean = clean
        self.message = message
        self.writer = writer
        self.begins_late = begins_late


def standing_so(line, signs):
    """The line with other signs of its row, and the same that were written."""
    return Line(line.table_name, line.coder, signs, line.clean, line.message, line.writer, line.begins_late)


def written_on(line, message):
    """The line with a message more."""
    row, writer = line.coder.write(message, line.writer)
    return Line(line.table_name, line.coder, line.signs + row, line.clean + row, line.message + message, writer,
                line.begins_late)


def turned(line, at):
    """The line with the other sign at that place."""
    sign = "0" if line.signs[at] == "1" else "1"
    return standing_so(line, line.signs[:at] + sign + line.signs[at + 1:])


def wiped(line, at, many):
    """The line with so many signs from that place on that can't be read any more."""
    return standing_so(line, line.signs[:at] + LOST * many + line.signs[at + many:])


def cut_down(line, many):
    """The line without so many blocks at its beginning."""
    p, q = line.coder.pace()
    return Line(line.table_name, line.coder, line.signs[many * q:], line.clean[many * q:], line.message[many * p:],
                line.writer, True)


def faults_of(line):
    """The places at which another sign stands than was written, rising."""
    return [at for at, (sign, clean) in enumerate(zip(line.signs, line.clean)) if sign != clean]


def spoilt_of(line):
    """The blocks in whose window a fault stands, rising."""
    back, forth = sliding_reach(line.coder)
    q = line.coder.pace()[1]
    faults = faults_of(line)
    return [at // q for at in range(0, len(line.signs), q)
            if any([at - back <= fault < at + (forth + 1) * q for fault in faults])]


def read_of(line):
    """The blocks as they are read."""
    return slide(line.coder, line.signs, line.begins_late)
