"""The machine: how it is loaded, its sixteen instructions, its frames and its mark.

Between frames a machine is kept as a list, "all of it as numbers":
a, x, the place, z, c and then its 128 bytes.
"""

PLACES = 128
PAD_PLACE = 127
MOST_INSTRUCTIONS = 300
REST = 0
FIRST_BYTE = 5


# A machine in the midst of a frame.
class Machine:
    def __init__(self, numbers):
        self.a = numbers[0]
        self.x = numbers[1]
        self.place = numbers[2]
        self.z = numbers[3]
        self.c = numbers[4]
        self.memory = numbers[FIRST_BYTE:]

    def numbers(self):
        return [self.a, self.x, self.place, self.z, self.c] + self.memory

    def byte_at(self, place):
        return self.memory[place % PLACES]

    def put_byte(self, place, byte):
        self.memory[place % PLACES] = byte

    def put_a(self, number):
        self.a = number % 256
        self.z = 1 if self.a == 0 else 0

    def put_x(self, number):
        self.x = number % 256
        self.z = 1 if self.x == 0 else 0

    def run_frame(self, pad):
        self.put_byte(PAD_PLACE, pad)
        done = 0
        resting = False
        while done < MOST_INSTRUCTIONS and not resting:
            resting = self.do_instruction() == REST
            done += 1

    # Give back which instruction it was.
    def do_instruction(self):
        which = self.byte_at(self.place) % 16
        n = self.byte_at(self.place + 1)
        self.place = (self.place + 2) % PLACES
        if which >= 12:
            self.jump(which, n)
        elif which >= 8:
            self.reckon(which, n)
        elif which >= 6:
            self.change_x(which, n)
        elif which != REST:
            self.move(which, n)
        return which

    def move(self, which, n):
        if which == 1:
            self.put_a(n)
        elif which == 2:
            self.put_a(self.byte_at(n))
        elif which == 3:
            self.put_byte(n, self.a)
        elif which == 4:
            self.put_a(self.byte_at(n + self.x))
        else:
            self.put_byte(n + self.x, self.a)

    def change_x(self, which, n):
        if which == 6:
            self.put_x(n)
        else:
            self.put_x(self.x + n)

    def reckon(self, which, n):
        byte = self.byte_at(n)
        if which == 8:
            self.c = 1 if self.a + byte >= 256 else 0
            self.put_a(self.a + byte)
        elif which == 9:
            self.c = 1 if byte > self.a else 0
            self.put_a(self.a - byte)
        elif which == 10:
            self.put_a(self.a & byte)
        else:
            self.put_a(self.a ^ byte)

    def jump(self, which, n):
        if which == 12:
            due = True
        elif which == 13:
            due = self.z == 1
        elif which == 14:
            due = self.z == 0
        else:
            due = self.c == 1
        if due:
            self.place = n % PLACES


def loaded(some_bytes):
    return [0, 0, 0, 1, 0] + some_bytes + [0] * (PLACES - len(some_bytes))


# The machine as numbers, behind a frame that it ran with this pad.
def behind_frame(numbers, pad):
    machine = Machine(numbers)
    machine.run_frame(pad)
    return machine.numbers()


def mark(numbers):
    total = 0
    for number in numbers:
        total = (31 * total + number + 7) % 65521
    return total
