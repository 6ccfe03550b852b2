"""Jobs: the ten numbers of a product, their three matrices, and which can be done."""

from quiltwork.dots import PAIRS_KIND
from quiltwork.ground import GROUND_SIZE
from quiltwork.weaving import group_rows

JOB_LENGTH = 10
MOST_ROWS = 64
MOST_COLUMNS = 64
MOST_K = 256
# So many of B's rows a dot takes at most.
DOT_DEPTH = 16


class Matrix:
    def __init__(self, place, stride, height, width):
        self.place = place
        self.stride = stride
        self.height = height
        self.width = width

    def place_of_row(self, i):
        return self.place + i * self.stride

    def place_behind(self):
        return self.place_of_row(self.height - 1) + self.width

    def shares_bytes(self, other):
        return self.place < other.place_behind() and other.place < self.place_behind()


class Job:
    def __init__(self, numbers):
        self.kind = numbers[0]
        self.m = numbers[1]
        self.n = numbers[2]
        self.k = numbers[3]
        # So many rows B has; A's rows are four bytes for each of them, in every kind.
        self.depth = self.k // group_rows(self.kind)
        self.a = Matrix(numbers[4], numbers[7], self.m, 4 * self.depth)
        self.b = Matrix(numbers[5], numbers[8], self.depth, 4 * self.n)
        self.c = Matrix(numbers[6], numbers[9], self.m, 4 * self.n)


def has_job_sizes(job):
    if job.kind > PAIRS_KIND or job.k % group_rows(job.kind) != 0:
        return False
    return 1 <= job.m <= MOST_ROWS and 1 <= job.n <= MOST_COLUMNS and 1 <= job.k <= MOST_K


def lies_well(job):
    if any([matrix.place_behind() > GROUND_SIZE for matrix in (job.a, job.b, job.c)]):
        return False
    if job.m != 1 and job.c.stride < job.c.width:
        return False
    return not job.c.shares_bytes(job.a) and not job.c.shares_bytes(job.b)


# None is answered if these numbers are no job that can be done.
def job_of(numbers):
    if len(numbers) != JOB_LENGTH:
        return None
    job = Job(numbers)
    return job if has_job_sizes(job) and lies_well(job) else None
