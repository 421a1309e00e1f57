"""The errors that the program raises."""


class LivesteadError(ValueError):
    """The base class of all errors that the program raises."""


class SourceError(LivesteadError):
    """A source text has a wrong token, or is no source, at the position `at`."""

    def __init__(self, at):
        super().__init__(f"the source is wrong at position {at}")
        self.at = at


class NameTwice(LivesteadError):
    """The name `name` occurs twice where each name may occur once."""

    def __init__(self, name):
        super().__init__(f"the name {name} occurs twice")
        self.name = name


class ChangeRefused(LivesteadError):
    """A change of the definitions is refused; `at` is the number of the change."""

    def __init__(self, at):
        super().__init__(f"refused at change {at}")
        self.at = at


class FileError(LivesteadError):
    """A text is no file or no datum; `at` tells what is wrong with it."""

    def __init__(self, at):
        super().__init__(f"the file is wrong, kind {at}")
        self.at = at


class RenameRefused(LivesteadError):
    """A method cannot be renamed in this way."""

    def __init__(self):
        super().__init__("the renaming is refused")


class TaskError(LivesteadError):
    """A task is started while one is running, or steps are asked for before one was started."""

    def __init__(self):
        super().__init__("a task is running already, or none was started")
