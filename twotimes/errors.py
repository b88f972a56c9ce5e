"""The refusals of the program, one class for each."""


class TimesError(ValueError):
    pass


class NoName(TimesError):
    pass


class NoStretch(TimesError):
    pass


class NoKnowing(TimesError):
    pass


class Forgotten(TimesError):
    pass


class NoSheet(TimesError):
    pass


class Broken(TimesError):
    def __init__(self, rule, moment, key):
        TimesError.__init__(self, rule, moment, key)
        self.rule = rule
        self.moment = moment
        self.key = key


class NoFit(TimesError):
    pass


class NoLog(TimesError):
    def __init__(self, line):
        TimesError.__init__(self, line)
        self.line = line


class NoRow(TimesError):
    pass
