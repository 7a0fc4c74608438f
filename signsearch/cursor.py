"""A place in a list of bytes that moves on over right bytes alone."""

NO_BYTE = -1


# It never steps over a wrong byte, so where reading fails it stands at the fault.
class Cursor:
    def __init__(self, data):
        self.data = data
        self.at = 0

    def at_end(self):
        return self.at == len(self.data)

    def peek(self):
        if self.at_end():
            return NO_BYTE
        return self.data[self.at]

    def take(self, byte):
        if self.peek() != byte:
            return False
        self.at += 1
        return True

    # Answers the byte, or 0 if the next one lies outside; low is above 0.
    def take_between(self, low, high):
        byte = self.peek()
        if byte < low or byte > high:
            return 0
        self.at += 1
        return byte
