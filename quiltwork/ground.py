"""The ground: 16,384 bytes in 16 pages, each closed, readable or writable too."""

GROUND_SIZE = 16384
PAGE_SIZE = 1024
PAGES = 16

# Each state allows what those below it do (0 is closed), so that states can be compared.
READABLE = 1
WRITABLE = 2


def lies_in_ground(place, length):
    return place + length <= GROUND_SIZE


# A row is at most 64 bytes long: it never touches a third page.
def pages_of_row(place, length):
    return (place // PAGE_SIZE, (place + length - 1) // PAGE_SIZE)


class Ground:
    def __init__(self):
        self.cells = [0] * GROUND_SIZE
        self.pages = [WRITABLE] * PAGES

    def read(self, place, length):
        return self.cells[place:place + length]

    def write(self, place, data):
        for offset, value in enumerate(data):
            self.cells[place + offset] = value

    def first_closed(self, place, length, wanted):
        for page in pages_of_row(place, length):
            if self.pages[page] < wanted:
                return page
        return None
