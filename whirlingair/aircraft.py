"""Aircraft and their classes."""

# Classes are numbered from 0 to below this.
CLASSES = 4


class Aircraft:
    def __init__(self, number, kind, first, last):
        self.number = number
        self.kind = kind
        self.first = first
        self.last = last
