"""The codes of errors. Each of them is answered negative."""

TEXT_NOT_ALLOWED = 1
OUT_OF_RANGE = 2
NO_SUCH_STAR = 3
# Together with the kind of the error, 1 to 8.
TEXT_ERROR = 10
