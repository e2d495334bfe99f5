"""A book: its runs, and the names of its pages."""

from headplaces.numerals import DIGITS, number_text


# start is the index of the run's first page.
class Run:
    def __init__(self, style, first, count, prefix, start):
        self.style = style
        self.first = first
        self.last = first + count - 1
        self.count = count
        self.prefix = prefix
        self.start = start

    def has_index(self, index):
        return self.start <= index < self.start + self.count

    def has_number(self, number):
        return self.first <= number <= self.last

    def number_at(self, index):
        return self.first + index - self.start

    def index_at(self, number):
        return self.start + number - self.first

    def name_at(self, index):
        return self.prefix + number_text(self.style, self.number_at(index))


# Names in digits are not kept: they are many, and as a prefix has no digit, the
# name alone shows which part of it is the number. In a name of another style the
# prefix may look like a part of the number, so those names are kept whole.
class Book:
    def __init__(self, numerals):
        self.numerals = numerals
        self.runs = []
        self.total = 0
        self.lettered = {}

    # False, and nothing is changed, if one of the run's names is there.
    def add_run(self, style, first, count, prefix):
        run = Run(style, first, count, prefix, self.total)
        names = self.lettered_names(run)
        if self.has_digits_of(run) or self.has_lettered(names):
            return False
        for offset, name in enumerate(names):
            self.lettered[name] = run.start + offset
        self.runs.append(run)
        self.total = self.total + count
        return True

    def lettered_names(self, run):
        if run.style == DIGITS:
            return []
        prefix = run.prefix
        return [prefix + text for text in self.numerals.stretch(run.style, run.first, run.last)]

    def has_lettered(self, names):
        for name in names:
            if name in self.lettered:
                return True
        return False

    def has_digits_of(self, run):
        if run.style != DIGITS:
            return False
        for other in self.runs:
            alike = other.style == DIGITS and other.prefix == run.prefix
            if alike and other.first <= run.last and run.first <= other.last:
                return True
        return False

    # None if there is no such page.
    def run_at(self, index):
        for run in self.runs:
            if run.has_index(index):
                return run
        return None

    # None if no page has that name.
    def index_of_name(self, name):
        if name in self.lettered:
            return self.lettered[name]
        return self.index_of_digits(name)

    def index_of_digits(self, name):
        prefix = name.rstrip("0123456789")
        digits = name[len(prefix):]
        if digits == "" or digits[0] == "0" or len(digits) > 5:
            return None
        number = int(digits)
        for run in self.runs:
            if run.style == DIGITS and run.prefix == prefix and run.has_number(number):
                return run.index_at(number)
        return None
