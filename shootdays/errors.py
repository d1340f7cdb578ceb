"""The refusals. Each class stands right under ShootError, so that catching one never catches another."""


class ShootError(ValueError):
    """Any refusal."""


class NoBook(ShootError):
    """The parts make no book."""


class NoDay(ShootError):
    """A day, or a choice of days, that the book does not have."""


class NoRow(ShootError):
    """A row that the desk does not take."""


class NoPlan(ShootError):
    """A plan that has a fault; the field fault is that fault."""

    def __init__(self, fault):
        super().__init__("the plan has a fault")
        self.fault = fault


class TooWide(ShootError):
    """Too many full cases to look through; the field cases is how many they are."""

    def __init__(self, cases):
        super().__init__(f"{cases} cases are too many")
        self.cases = cases


class NoText(ShootError):
    """A row of a book's text that is not written as it should be; the field row is its number."""

    def __init__(self, row):
        super().__init__(f"row {row} is not written as a book's row")
        self.row = row


class Twice(ShootError):
    """A row that tells a name again; the field row is its number."""

    def __init__(self, row):
        super().__init__(f"row {row} tells a name again")
        self.row = row


class NoName(ShootError):
    """A row that names what no row ahead of it tells; the field row is its number."""

    def __init__(self, row):
        super().__init__(f"row {row} names what is not there")
        self.row = row


class NoSheet(ShootError):
    """A row with which no plan's sheets go on; the field row is its number."""

    def __init__(self, row):
        super().__init__(f"row {row} is no row of such sheets")
        self.row = row
