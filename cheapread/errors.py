"""What Cheapread refuses."""


class ReadError(ValueError):
    pass


class BadChain(ReadError):
    pass


class BadWords(ReadError):
    pass


class BadGrammar(ReadError):
    pass
