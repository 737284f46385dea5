"""The form of records: from bytes to the nodes of the record's line.

A node is a dict: by a name, each use of it in that node; a use is the list of its values, a value
the list of its bytes.
"""

BLANKS = (32, 9, 10, 13)
TREE_OPENS = 40
TREE_CLOSES = 41
NODE_OPENS = 59
VALUE_OPENS = 91
VALUE_CLOSES = 93
STANDS_FOR_ITSELF = 92
CAPITALS = "ABCDEFGHIJKLMNOPQRSTUVWXYZ"
FIRST_CAPITAL = 65
LAST_CAPITAL = 90
MOST_CAPITALS = 8
MOST_TREES = 40
# What is seen where the bytes have ended; no byte is so.
END = -1


class NotARecord(Exception):
    pass


# The bytes of a record and how far they have been read.
class Reader:
    def __init__(self, record):
        self.record = record
        self.reached = 0

    def sees(self):
        if self.reached < len(self.record):
            return self.record[self.reached]
        return END

    def sees_behind_blanks(self):
        while self.sees() in BLANKS:
            self.reached += 1
        return self.sees()

    def take(self):
        byte = self.sees()
        if byte == END:
            raise NotARecord()
        self.reached += 1
        return byte

    def take_behind_blanks(self, byte):
        if self.sees_behind_blanks() != byte:
            raise NotARecord()
        self.take()


def is_capital(byte):
    return FIRST_CAPITAL <= byte <= LAST_CAPITAL


def read_name(reader):
    name = ""
    while is_capital(reader.sees()):
        name += CAPITALS[reader.take() - FIRST_CAPITAL]
    if len(name) > MOST_CAPITALS:
        raise NotARecord()
    return name


def read_value(reader):
    reader.take_behind_blanks(VALUE_OPENS)
    value = []
    byte = reader.take()
    while byte != VALUE_CLOSES:
        if byte == STANDS_FOR_ITSELF:
            byte = reader.take()
        value.append(byte)
        byte = reader.take()
    return value


def read_values(reader):
    values = [read_value(reader)]
    while reader.sees_behind_blanks() == VALUE_OPENS:
        values.append(read_value(reader))
    return values


def read_node(reader):
    reader.take_behind_blanks(NODE_OPENS)
    node = {}
    while is_capital(reader.sees_behind_blanks()):
        name = read_name(reader)
        node.setdefault(name, []).append(read_values(reader))
    return node


# Of a tree all that stands ahead of the trees within it.
def read_nodes(reader):
    reader.take_behind_blanks(TREE_OPENS)
    nodes = [read_node(reader)]
    while reader.sees_behind_blanks() == NODE_OPENS:
        nodes.append(read_node(reader))
    return nodes


# The line goes along the first trees, so it ends where a tree closes for the first time.
def line_of(record):
    reader = Reader(record)
    line = read_nodes(reader)
    has_ended = False
    trees = 1
    while trees > 0:
        if reader.sees_behind_blanks() == TREE_CLOSES:
            reader.take()
            trees -= 1
            has_ended = True
        elif trees == MOST_TREES:
            raise NotARecord()
        else:
            nodes = read_nodes(reader)
            trees += 1
            if not has_ended:
                line.extend(nodes)
    if reader.sees_behind_blanks() != END:
        raise NotARecord()
    return line
